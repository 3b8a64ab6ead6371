"""Boards of pins, looks along them, and the boards that come of one."""

from waypins.errors import NoBoard, NoLook, NoPin, NoPins, TooFew

FEWEST_PINS = 3
MOST_PINS = 8
LAST_PLACE = 99
WAYS = ("left", "right")
OTHER_WAY = {"left": "right", "right": "left"}


def is_whole(thing):
    """Whether it is a whole number."""
    # For Python a truth is an int, for the document it stands for no number.
    return isinstance(thing, int) and not isinstance(thing, bool)


def is_tuple_of(thing, many):
    """Whether it is a tuple of so many parts."""
    return isinstance(thing, tuple) and len(thing) == many


def is_place(thing):
    """Whether it may be the x or the y of a pin."""
    return is_whole(thing) and 0 <= thing <= LAST_PLACE


def is_pin(thing):
    """Whether it is a pin (x, y, way)."""
    if not is_tuple_of(thing, 3):
        return False
    x, y, way = thing
    return is_place(x) and is_place(y) and way in WAYS


def gap(one, other):
    """The differences (x, y) from one pin to another."""
    return (other[0] - one[0], other[1] - one[1])


def gaps(board):
    """The gap of each pair of pins, from one of the two to the other."""
    return [gap(one, other) for at, one in enumerate(board) for other in board[:at]]


def cross(one, other):
    """Above 0 where other points to the left of one, below 0 to the right, 0 along it either way."""
    return one[0] * other[1] - one[1] * other[0]


def is_board(thing):
    """Whether it is a board, of anything."""
    if not isinstance(thing, tuple) or not FEWEST_PINS <= len(thing) <= MOST_PINS:
        return False
    if not all([is_pin(part) for part in thing]):
        return False
    # Three pins on one line, and two at one place, are pairs along one direction, too.
    found = gaps(thing)
    return all([cross(one, other) != 0 for at, one in enumerate(found) for other in found[:at]])


def is_pin_number(board, thing):
    """Whether it is the number of a pin of the board."""
    return is_whole(thing) and 0 <= thing < len(board)


def is_rising_pins(board, thing):
    """Whether it is a rising tuple of pins' numbers, perhaps ()."""
    if not isinstance(thing, tuple) or not all([is_pin_number(board, part) for part in thing]):
        return False
    return all([one < other for one, other in zip(thing, thing[1:])])


def is_look(board, thing):
    """Whether it is a look on the board."""
    if not is_tuple_of(thing, 2) or not all([is_whole(part) for part in thing]):
        return False
    # (0, 0) lies along every gap.
    return all([cross(one, thing) != 0 for one in gaps(board)])


def need_board(board):
    """Refuse what is no board."""
    if not is_board(board):
        raise NoBoard("this is no board")


def need_pin(board, pin):
    """Refuse what is no pin's number."""
    if not is_pin_number(board, pin):
        raise NoPin("this is no number of a pin")


def need_pins(board, pins):
    """Refuse what is no rising tuple of pins' numbers."""
    if not is_rising_pins(board, pins):
        raise NoPins("this is no rising tuple of pins' numbers")


def need_look(board, look):
    """Refuse what is no look on the board."""
    if not is_look(board, look):
        raise NoLook("this is no look on this board")


def with_ways(board, pins):
    """The board with the ways of these pins turned."""
    need_board(board)
    need_pins(board, pins)
    return tuple([
        (x, y, OTHER_WAY[way] if at in pins else way)
        for at, (x, y, way) in enumerate(board)
    ])


def mirrored(board):
    """The board with left and right changed: the places and the ways."""
    need_board(board)
    return tuple([(LAST_PLACE - x, y, OTHER_WAY[way]) for x, y, way in board])


def without(board, pin):
    """The board without this pin, the others in their order."""
    need_board(board)
    need_pin(board, pin)
    many = len(board) - 1
    if many < FEWEST_PINS:
        raise TooFew(many, FEWEST_PINS)
    return board[:pin] + board[pin + 1:]


def direction(board, one, other):
    """The direction (x, y) from the pin one to the pin other."""
    need_board(board)
    need_pin(board, one)
    need_pin(board, other)
    if one == other:
        raise NoPin("there is no direction from a pin to itself")
    return gap(board[one], board[other])
