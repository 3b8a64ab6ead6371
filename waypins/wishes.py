"""Which ways, turned, let lines come where they are wished, or make so many rounds."""

from waypins.beats import need_stand
from waypins.boards import OTHER_WAY, need_board, need_pins
from waypins.errors import NoPins
from waypins.numbers import need_number
from waypins.turns import Turns, next_along, with_way


def followed(board, turns, slot, ways, ends):
    """Where a line goes from the slot till it comes to one of the ends: (end, ways, turned).

    Ways have None for each pin that the line has not yet had for its own. Such a one has its way of the board, when the
    line comes to it; turned has a (slot, ways) for each of them, where its way, too, is turned.
    """
    turned = []
    while True:
        own = turns.own(slot)
        if ways[own] is None:
            way = board[own][2]
            turned.append((slot, with_way(ways, own, OTHER_WAY[way])))
            ways = with_way(ways, own, way)
        slot = turns.behind[ways[own]][slot]
        if slot in ends:
            return slot, ways, turned


def fewest_turned(board, turns, start, goal, fits):
    """The least of the fewest pins whose ways, turned, let a line come from the start to the goal so that it fits.

    None where none do. Asked whether they fit are the ways, with None for each pin that it never has for its own.
    """
    # Each time round one pin more is turned; what a line never has for its own turns nothing, so it is left out.
    begun = [(start, (None,) * len(board))]
    while begun:
        found = []
        behind = []
        for slot, known in begun:
            end, ways, turned = followed(board, turns, slot, known, (goal, start))
            behind += turned
            if end == goal and fits(ways):
                found.append(tuple([pin for pin, way in enumerate(ways) if way == OTHER_WAY[board[pin][2]]]))
        if found:
            return min(found)
        begun = behind
    return None


def led_past(slots, next_slots, across, back):
    """Lines are led past a pin, so that they never have it for their own: (closed, across, back).

    Told is of each of its slots the next one by its way. Across tells to which slot a line goes over from each, back
    the other way about, and closed is how many rounds have no other pin any more.
    """
    across = list(across)
    back = list(back)
    closed = 0
    for slot, next_slot in zip(slots, next_slots):
        come_from = back[slot]
        if come_from == next_slot:
            closed += 1
        else:
            across[come_from] = across[next_slot]
            back[across[next_slot]] = come_from
    return closed, across, back


def counts(board):
    """(pins, how many rounds there are with their ways turned), for all rising tuples of pins without 0.

    All the others, turned, make as many: with all ways turned about each line goes its way back.
    """
    turns = Turns(board)
    found = [((), 0, turns.across, turns.across)]
    # Where lines are led past all pins, one by one, each round has been closed; so what is common is counted but once.
    for pin, (_, _, way) in enumerate(board):
        slots = turns.slots_of(pin)
        ways = [((), way)] if pin == 0 else [((), way), ((pin,), OTHER_WAY[way])]
        behind = []
        for pins, many, across, back in found:
            for more, its_way in ways:
                closed, now_across, now_back = led_past(slots, next_along(slots, its_way), across, back)
                behind.append((pins + more, many + closed, now_across, now_back))
        found = behind
    return [(pins, many) for pins, many, _, _ in found]


def to_all(board, stand):
    """The least of the fewest pins whose ways, turned, let the line come to all pins, None where none do."""
    need_board(board)
    need_stand(board, stand)
    turns = Turns(board)
    start = turns.slot(stand)
    return fewest_turned(board, turns, start, start, lambda ways: None not in ways)


def keeping_off(board, stand, pins):
    """The least of the fewest pins whose ways, turned, let the line come to none of these, None where none do."""
    need_board(board)
    need_stand(board, stand)
    need_pins(board, pins)
    if stand[0] in pins:
        raise NoPins("no ways keep a line off its own pin")
    turns = Turns(board)
    start = turns.slot(stand)
    return fewest_turned(board, turns, start, start, lambda ways: all([ways[pin] is None for pin in pins]))


def bounds(board):
    """(fewest, most) rounds that the board can have, whatever the ways of its pins."""
    need_board(board)
    found = [many for _, many in counts(board)]
    return (min(found), max(found))


def making(board, many):
    """The least of the fewest pins whose ways, turned, make so many rounds, None where none do."""
    need_board(board)
    need_number(many)
    # There are as many rounds as pins, or fewer or more by an even number.
    if (many - len(board)) % 2 != 0:
        return None
    found = [pins for pins, made in counts(board) if made == many]
    others = [tuple([pin for pin in range(len(board)) if pin not in pins]) for pins in found]
    return min(found + others, key=lambda pins: (len(pins), pins), default=None)


def joining(board, one, other):
    """The least of the fewest pins whose ways, turned, let other come behind one, None where none do."""
    need_board(board)
    need_stand(board, one)
    need_stand(board, other)
    turns = Turns(board)
    return fewest_turned(board, turns, turns.slot(one), turns.slot(other), lambda ways: True)
