"""A table: a board and a line on it, and what is done with them, deed by deed."""

from waypins.beats import after, first, need_beats, number_of
from waypins.boards import need_board, need_look, need_pin, with_ways
from waypins.errors import NoDeed, NotLaid
from waypins.numbers import numbers


def line_behind(board, line, many):
    """Where a line is behind so many beats; told so as a table's where() tells it."""
    if many == 0:
        return line
    if line[0] == "stands":
        return ("stands", after(board, line[1], many))
    _, pin, look = line
    # The first beat brings a line that was only laid to the stand in which it has met a pin.
    return ("stands", after(board, first(board, pin, look), many - 1))


class Table:
    """A board and a line, at first none; deeds change them, and can be undone."""

    def __init__(self, board):
        need_board(board)
        self._board = board
        self._line = None
        # (board, line) ahead of each deed that stands.
        self._past = []

    def __eq__(self, other):
        return isinstance(other, Table) and self._board == other._board and self._line == other._line

    def __len__(self):
        return len(self._past)

    def __repr__(self):
        return f"Table({len(self._board)} pins)"

    def _change(self, board, line):
        """Do a deed behind which there are this board and this line."""
        self._past.append((self._board, self._line))
        self._board = board
        self._line = line

    def _need_line(self):
        """Refuse what cannot be where no line lies."""
        if self._line is None:
            raise NotLaid("no line lies on the table")

    def lay(self, pin, look):
        """The line lies on this pin and looks so."""
        need_pin(self._board, pin)
        need_look(self._board, look)
        self._change(self._board, ("laid", pin, look))

    def turn(self, pin):
        """This pin's way is turned; where the line lies stays as it is."""
        need_pin(self._board, pin)
        self._change(with_ways(self._board, (pin,)), self._line)

    def beats(self, many):
        """The line goes on by so many beats."""
        need_beats(many)
        self._need_line()
        self._change(self._board, line_behind(self._board, self._line, many))

    def away(self):
        """There is no line any more."""
        self._need_line()
        self._change(self._board, None)

    def undo(self):
        """The last deed that stands is undone."""
        if len(self._past) == 0:
            raise NoDeed("there is no deed to be undone")
        self._board, self._line = self._past.pop()

    def board(self):
        """The board, with the ways as they are now."""
        return self._board

    def where(self):
        """None, or ("laid", pin, look) till the line has met a pin, or ("stands", stand)."""
        return self._line

    def number(self):
        """The number of the line."""
        self._need_line()
        if self._line[0] == "stands":
            return number_of(self._board, self._line[1])
        _, pin, look = self._line
        return numbers(self._board, look)[pin]

    def twin(self):
        """Another table with the same board, line and deeds."""
        found = Table(self._board)
        found._line = self._line
        found._past = list(self._past)
        return found
