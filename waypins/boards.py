"""Boards of pins, looks along them, and the boards that come of one."""

from waypins.errors import NoBoard, NoLook, NoPin, NoPins, TooFew

FEWEST_PINS = 3
MOST_PINS = 8
LAST_PLACE = 99
WAYS = ("left", "right")
OTHER_WAY = {"left": "right", "right": "left"}
# Two unlike slopes between places are at least 1 / 9702 apart, two leans (waypins.turns) at least 1 / 19602: so many
# times as great, both are more than 1 apart, and stay unlike in whole numbers.
FINE = 20000


def is_whole(thing):
    """Whether it is a whole number."""
    # For Python a truth is an int, for the document it stands for no number.
    return isinstance(thing, int) and not isinstance(thing, bool)


def is_tuple_of(thing, many):
    """Whether it is a tuple of so many parts."""
    return isinstance(thing, tuple) and len(thing) == many


def is_pin(thing):
    """Whether it is a pin (x, y, way)."""
    if not isinstance(thing, tuple) or len(thing) != 3:
        return False
    x, y, way = thing
    # What is_whole tells, in a quicker way: every question asks it of all pins.
    if not isinstance(x, int) or not isinstance(y, int) or x is True or x is False or y is True or y is False:
        return False
    return 0 <= x <= LAST_PLACE and 0 <= y <= LAST_PLACE and (way == "left" or way == "right")


def gap(one, other):
    """The differences (x, y) from one pin to another."""
    return (other[0] - one[0], other[1] - one[1])


def many_slopes(board):
    """How many unlike slopes the pairs of pins have."""
    # An upright pair has no slope; of two pins at one place, which count as upright, any third one shows that they are.
    return len({
        (y - other_y) * FINE // (x - other_x) if x != other_x else None
        for at, (x, y, _) in enumerate(board) for other_x, other_y, _ in board[:at]
    })


def is_board(thing):
    """Whether it is a board, of anything."""
    if not isinstance(thing, tuple) or not FEWEST_PINS <= len(thing) <= MOST_PINS:
        return False
    for part in thing:
        if not is_pin(part):
            return False
    # Three pins on one line are pairs along one direction, too.
    return many_slopes(thing) == len(thing) * (len(thing) - 1) // 2


def is_pin_number(board, thing):
    """Whether it is the number of a pin of the board."""
    return is_whole(thing) and 0 <= thing < len(board)


def is_rising_pins(board, thing):
    """Whether it is a rising tuple of pins' numbers, perhaps ()."""
    if not isinstance(thing, tuple) or not all([is_pin_number(board, part) for part in thing]):
        return False
    return all([one < other for one, other in zip(thing, thing[1:])])


def need_board(board):
    """Refuse what is no board."""
    if not is_board(board):
        raise NoBoard("this is no board")


def need_pin(board, pin):
    """Refuse what is no pin's number."""
    if not is_pin_number(board, pin):
        raise NoPin("this is no number of a pin")


def need_pins(board, pins):
    """Refuse what is no rising tuple of pins' numbers."""
    if not is_rising_pins(board, pins):
        raise NoPins("this is no rising tuple of pins' numbers")


def need_one_to_spare(board):
    """Refuse a board that would have too few pins without one of them."""
    many = len(board) - 1
    if many < FEWEST_PINS:
        raise TooFew(many, FEWEST_PINS)


def need_look(board, look):
    """Refuse what is no look on the board; told are the pins by how far each of them lies to its left."""
    if not is_tuple_of(look, 2) or not is_whole(look[0]) or not is_whole(look[1]):
        raise NoLook("this is no pair of whole numbers")
    look_x, look_y = look
    found = {look_x * y - look_y * x: pin for pin, (x, y, _) in enumerate(board)}
    # Two pins along which it looks lie equally far to its left; where it is (0, 0), all of them do.
    if len(found) < len(board):
        raise NoLook("this looks along two pins")
    return found


def with_ways(board, pins):
    """The board with the ways of these pins turned."""
    need_board(board)
    need_pins(board, pins)
    return tuple([
        (x, y, OTHER_WAY[way] if at in pins else way)
        for at, (x, y, way) in enumerate(board)
    ])


def mirrored(board):
    """The board with left and right changed: the places and the ways."""
    need_board(board)
    return tuple([(LAST_PLACE - x, y, OTHER_WAY[way]) for x, y, way in board])


def without(board, pin):
    """The board without this pin, the others in their order."""
    need_board(board)
    need_pin(board, pin)
    need_one_to_spare(board)
    return board[:pin] + board[pin + 1:]


def direction(board, one, other):
    """The direction (x, y) from the pin one to the pin other."""
    need_board(board)
    need_pin(board, one)
    need_pin(board, other)
    if one == other:
        raise NoPin("there is no direction from a pin to itself")
    return gap(board[one], board[other])
