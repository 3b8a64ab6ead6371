"""A desk: what it is told in lines of words it does and answers at a table."""

from waypins.errors import NoLine, NotLaid
from waypins.rounds import pins_of, rounds, turning
from waypins.table import Table
from waypins.texts import board_text, is_figures, read_board

FIRST_BOARD = "0,0< 40,3< 11,29<"
MOST_FIGURES = 12
DONE = "ok"


def is_number(word):
    """Whether the word writes a whole number as a line may hold it."""
    if word.startswith("-"):
        # There is no nought below 0.
        return word != "-0" and is_figures(word[1:], MOST_FIGURES)
    return is_figures(word, MOST_FIGURES)


def in_words(things):
    """These things in words, with one blank between."""
    return " ".join([str(thing) for thing in things])


def stand_of(table):
    """The stand of the table's line; refused is where it has met no pin."""
    line = table.where()
    if line is None or line[0] == "laid":
        raise NotLaid("there is no line that has met a pin")
    return line[1]


def do_lay(table, pin, x, y):
    """Answer `lay PIN X Y`."""
    table.lay(pin, (x, y))
    return DONE


def do_turn(table, pin):
    """Answer `turn PIN`."""
    table.turn(pin)
    return DONE


def do_beats(table, many):
    """Answer `beats MANY`."""
    table.beats(many)
    return DONE


def do_away(table):
    """Answer `away`."""
    table.away()
    return DONE


def do_undo(table):
    """Answer `undo`."""
    table.undo()
    return DONE


def tell_board(table):
    """Answer `show`."""
    return board_text(table.board())


def tell_where(table):
    """Answer `where`."""
    line = table.where()
    if line is None:
        return "none"
    if line[0] == "stands":
        return in_words(line[1])
    _, pin, look = line
    return in_words((pin, *look))


def tell_number(table):
    """Answer `number`."""
    return str(table.number())


def tell_rounds(table):
    """Answer `rounds`."""
    return str(len(rounds(table.board())))


def tell_turning(table):
    """Answer `turns`."""
    return turning(table.board(), stand_of(table))


def tell_pins(table):
    """Answer `pins`."""
    return in_words(pins_of(table.board(), stand_of(table)))


# How each line is answered, by its first word, and how many numbers stand behind it where some do.
ANSWERS = {
    "lay": do_lay, "turn": do_turn, "beats": do_beats, "away": do_away, "undo": do_undo, "show": tell_board,
    "where": tell_where, "number": tell_number, "rounds": tell_rounds, "turns": tell_turning, "pins": tell_pins,
}
NUMBERS_BEHIND = {"lay": 3, "turn": 1, "beats": 1}


class Desk:
    """A table, at first of a board of three pins, and the lines that are said of it."""

    def __init__(self):
        self._table = Table(read_board(FIRST_BOARD))

    def say(self, line):
        """What is answered to the line, when it is done."""
        if not isinstance(line, str):
            raise NoLine("this is no text")
        # All behind that blank is the board's text: whether blanks stand right in it is for the text to tell.
        if line.startswith("board "):
            self._table = Table(read_board(line.removeprefix("board ")))
            return DONE
        word, *parts = line.split(" ")
        if word not in ANSWERS or len(parts) != NUMBERS_BEHIND.get(word, 0):
            raise NoLine("no line has these words")
        if not all([is_number(part) for part in parts]):
            raise NoLine("not all words behind the first one are whole numbers")
        answer = ANSWERS[word]
        numbers = [int(part) for part in parts]
        return answer(self._table, *numbers)
