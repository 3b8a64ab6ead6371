"""Rows of pins that a line was seen to have for its own, and the ways and stands that tell of them: their stories."""

from waypins.beats import stand_holds
from waypins.boards import WAYS, is_pin_number, is_tuple_of, need_board
from waypins.errors import NoRow
from waypins.turns import Turns, with_way

LONGEST_ROW = 30


def need_row(board, row):
    """Refuse what is no row of pins' numbers."""
    if not isinstance(row, tuple) or not 1 <= len(row) <= LONGEST_ROW:
        raise NoRow("this is no tuple of one to thirty pins' numbers")
    if not all([is_pin_number(board, pin) for pin in row]):
        raise NoRow("not all of this are pins' numbers")


def onward(turns, slot, ways):
    """(slot, ways) behind a beat, by each way that the own pin may have, and what is known of the ways then."""
    own = turns.own(slot)
    if ways[own] is not None:
        return [(turns.behind[ways[own]][slot], ways)]
    return [(turns.behind[way][slot], with_way(ways, own, way)) for way in WAYS]


def kinds_of_stories(board, turns, row):
    """The stories of a row by their kinds, (start, last, ways): the slots at both ends of the row, and the ways.

    A pin that may have either way has None. Each story is of one kind alone.
    """
    none_known = (None,) * len(board)
    found = [(slot, slot, none_known) for slot in turns.slots_of(row[0])]
    for pin in row[1:]:
        found = [
            (start, there, known)
            for start, here, ways in found for there, known in onward(turns, here, ways) if turns.own(there) == pin
        ]
    return found


def same_way(kinds, pin):
    """The way that the pin has in all of these kinds, None where it is not the same."""
    way = kinds[0][2][pin]
    return way if all([ways[pin] == way for _, _, ways in kinds]) else None


def many_stories(board, row):
    """How many stories the row has."""
    need_board(board)
    need_row(board, row)
    kinds = kinds_of_stories(board, Turns(board), row)
    # Each pin that may have either way makes twice as many.
    return sum([1 << ways.count(None) for _, _, ways in kinds])


def sure_ways(board, row):
    """For each pin its way where it is the same in all stories, else None; None where there is no story."""
    need_board(board)
    need_row(board, row)
    kinds = kinds_of_stories(board, Turns(board), row)
    if not kinds:
        return None
    return tuple([same_way(kinds, pin) for pin in range(len(board))])


def is_story(board, row, thing):
    """Whether it is a story of the row, of anything."""
    need_board(board)
    need_row(board, row)
    if not is_tuple_of(thing, 2):
        return False
    ways, stand = thing
    if not is_tuple_of(ways, len(board)) or not all([way in WAYS for way in ways]) or not stand_holds(board, stand):
        return False
    turns = Turns(board)
    steps = turns.steps(ways)
    here = turns.slot(stand)
    for pin in row:
        if turns.own(here) != pin:
            return False
        here = steps[here]
    return True


def some_story(board, row):
    """Some story of the row, None where there is none."""
    need_board(board)
    need_row(board, row)
    turns = Turns(board)
    kinds = kinds_of_stories(board, turns, row)
    if not kinds:
        return None
    start, _, ways = kinds[0]
    return (tuple(["left" if way is None else way for way in ways]), turns.stands[start])


def next_pins(board, row):
    """The rising tuple of the pins that may be the next ones behind the row."""
    need_board(board)
    need_row(board, row)
    turns = Turns(board)
    kinds = kinds_of_stories(board, turns, row)
    return tuple(sorted({turns.own(slot) for _, last, ways in kinds for slot, _ in onward(turns, last, ways)}))
