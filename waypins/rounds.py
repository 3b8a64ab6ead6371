"""Rounds: the stands that a line comes to, beat by beat, till it comes again."""

from waypins.beats import line_number, need_stand, stands_from
from waypins.boards import need_board, need_pin
from waypins.turns import Turns, all_trails, trail, ways_of

# As sums count them, one behind the other.
TURNINGS = ("left", "right", "none")


def turning_of(winding):
    """How a line turns in its round that passes a look so often to the left, less how often to the right."""
    if winding == 0:
        return "none"
    return "left" if winding > 0 else "right"


def from_least(stands):
    """The stands of a round, told from any one on, as the tuple from the least one on."""
    at = stands.index(min(stands))
    return tuple(stands[at:] + stands[:at])


def all_rounds(board):
    """All rounds of what is a board, a rising list."""
    turns = Turns(board)
    slots = all_trails(turns.steps(ways_of(board)))
    return sorted([from_least([turns.stands[slot] for slot in row]) for row in slots])


def comes_to(stands, pin):
    """Whether a line ever has the pin for its own in these stands."""
    return pin in [own for own, _, _ in stands]


def round_of(board, stand):
    """The round of the stand: the stands from the least one on, beat by beat."""
    need_board(board)
    need_stand(board, stand)
    return from_least(stands_from(board, stand))


def rounds(board):
    """All rounds of the board, a rising tuple."""
    need_board(board)
    return tuple(all_rounds(board))


def turning(board, stand):
    """How the line turns in its round: once round to the "left", to the "right", or, in all, not at all: "none"."""
    need_board(board)
    need_stand(board, stand)
    turns = Turns(board)
    ways = ways_of(board)
    return turning_of(turns.winding(ways, trail(turns.steps(ways), turns.slot(stand))))


def together(board, one, other):
    """("one", many) where one comes to other behind that many beats, else ("numbers", ..) or ("rounds", ..) and why."""
    need_board(board)
    need_stand(board, one)
    need_stand(board, other)
    stands = stands_from(board, one)
    if other in stands:
        return ("one", stands.index(other))
    numbers = (line_number(board, one), line_number(board, other))
    if numbers[0] != numbers[1]:
        return ("numbers", *numbers)
    return ("rounds", min(stands), min(stands_from(board, other)))


def pins_of(board, stand):
    """The rising tuple of the pins that the line in the stand ever has for its own."""
    need_board(board)
    need_stand(board, stand)
    return tuple(sorted({own for own, _, _ in stands_from(board, stand)}))


def rounds_at(board, pin):
    """The rising tuple of the rounds that come to the pin."""
    need_board(board)
    need_pin(board, pin)
    return tuple([stands for stands in all_rounds(board) if comes_to(stands, pin)])


def sums(board):
    """For each number from 0 on how many rounds of it turn (left, right, none)."""
    need_board(board)
    turns = Turns(board)
    ways = ways_of(board)
    found = [[0, 0, 0] for _ in board]
    for slots in all_trails(turns.steps(ways)):
        number = line_number(board, turns.stands[slots[0]])
        found[number][TURNINGS.index(turning_of(turns.winding(ways, slots)))] += 1
    return tuple([tuple(row) for row in found])
