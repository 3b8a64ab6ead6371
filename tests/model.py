"""A table as the document tells of it, kept by the oracle's road: what is due of each deed, and what is told then."""

import itertools

import brute
import kit
import oracle
from waypins.errors import NoDeed, NoLook, NoNumber, NoPin, NotLaid


def lies_along_two(board, look):
    """Whether the look is along two pins, or none at all."""
    x, y = look
    return any(
        x * (qy - py) == y * (qx - px) for (px, py, _), (qx, qy, _) in itertools.permutations(board, 2)
    )


def behind(board, line, many):
    """The line behind so many beats."""
    if many == 0:
        return line
    if line[0] == "laid":
        return behind(board, ("stands", oracle.first(board, *line[1:])), many - 1)
    found = brute.trail(brute.steps(board), line[1])
    return ("stands", found[many % len(found)])


class Model:
    def __init__(self, board):
        self.past = []
        self.board = board
        self.line = None

    def due(self, deed, *given):
        """The refusal that is due of a deed, given what is of its kind; None where it is to be done."""
        if deed in ("lay", "turn") and not 0 <= given[0] < len(self.board):
            return NoPin
        if deed == "lay" and lies_along_two(self.board, given[1]):
            return NoLook
        if deed == "beats" and not 0 <= given[0] <= kit.MILLION_MILLION:
            return NoNumber
        if deed in ("beats", "away") and self.line is None:
            return NotLaid
        if deed == "undo" and not self.past:
            return NoDeed
        return None

    def do(self, deed, *given):
        """Do a deed of which no refusal is due."""
        if deed == "undo":
            self.board, self.line = self.past.pop()
            return
        self.past.append((self.board, self.line))
        if deed == "lay":
            self.line = ("laid", *given)
        elif deed == "turn":
            self.board = kit.ways_turned(self.board, given)
        elif deed == "beats":
            self.line = behind(self.board, self.line, *given)
        elif deed == "away":
            self.line = None
        else:
            raise AssertionError(deed)

    def number(self):
        """The number of the line, None where there is none."""
        if self.line is None:
            return None
        if self.line[0] == "laid":
            return oracle.numbers(self.board, self.line[2])[self.line[1]]
        return oracle.number_of(self.board, self.line[1])


def told(table):
    """All that a table tells of itself, to be compared."""
    try:
        number = table.number()
    except NotLaid:
        number = None
    return repr((table.board(), table.where(), number, len(table), table))


def expected(model):
    """What a table must tell of itself that is as the model is."""
    words = f"Table({len(model.board)} pins)"
    return "(" + ", ".join([*map(repr, (model.board, model.line, model.number(), len(model.past))), words]) + ")"


def some_deed(chance, board):
    """A deed, at random: most are to be done, some to be refused."""
    deed = chance.choice(("lay", "lay", "turn", "turn", "beats", "beats", "beats", "away", "undo", "undo"))
    pin = chance.randrange(-1, len(board) + 1) if chance.random() < 0.1 else chance.randrange(len(board))
    if deed == "lay":
        return (deed, pin, some_look(chance, board))
    if deed == "turn":
        return (deed, pin)
    if deed == "beats":
        great = (kit.MILLION_MILLION - 1, 999999999989, -1, -5, chance.randrange(10 ** 12))
        return (deed, chance.choice(great) if chance.random() < 0.2 else chance.choice((0, 0, 1, 1, 2, 3, 7, 30)))
    return (deed,)


def some_look(chance, board):
    """A look, at random, perhaps along two pins, or none at all."""
    if chance.random() < 0.1:
        (px, py, _), (qx, qy, _) = chance.sample(board, 2)
        return chance.choice(((0, 0), (qx - px, qy - py), (5 * (qx - px), 5 * (qy - py))))
    most = chance.choice((1, 100, 10 ** 12 - 1))
    return (chance.randint(-most, most), chance.randint(-most, most))
