"""Two lines that go beat by beat, both at once."""

from waypins.beats import need_stand
from waypins.boards import need_board
from waypins.turns import Turns, trail, ways_of


def own_pins(board, stands):
    """For each of the stands the own pins of its line from it on, beat by beat, till it would come again."""
    turns = Turns(board)
    steps = turns.steps(ways_of(board))
    return [[turns.own(slot) for slot in trail(steps, turns.slot(stand))] for stand in stands]


def common_measure(one, other):
    """The greatest number that divides both."""
    while other > 0:
        one, other = other, one % other
    return one


def many_meetings(ones, others):
    """How often both have one pin till both come again at once."""
    # A beat of the one line and a beat of the other fall together just once, if they leave the same by the common
    # measure of both lengths, and else never.
    measure = common_measure(len(ones), len(others))
    counts = {}
    for many, pin in enumerate(ones):
        key = (many % measure, pin)
        counts[key] = counts.get(key, 0) + 1
    return sum([counts.get((many % measure, pin), 0) for many, pin in enumerate(others)])


def meet(board, one, other):
    """The least number of beats behind which both lines have one pin for their own, None where that never comes."""
    need_board(board)
    need_stand(board, one)
    need_stand(board, other)
    ones, others = own_pins(board, (one, other))
    if many_meetings(ones, others) == 0:
        return None
    many = 0
    while ones[many % len(ones)] != others[many % len(others)]:
        many += 1
    return many


def how_often(board, one, other):
    """How often both have one pin in the beats below the least number that the lengths of both rounds divide."""
    need_board(board)
    need_stand(board, one)
    need_stand(board, other)
    ones, others = own_pins(board, (one, other))
    return many_meetings(ones, others)
