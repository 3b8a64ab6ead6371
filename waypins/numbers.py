"""The numbers of the lines that lie on pins along a look."""

from waypins.boards import cross, is_whole, need_board, need_look
from waypins.errors import NoNumber


def need_number(number):
    """Refuse what is no whole number from 0 on."""
    if not is_whole(number) or number < 0:
        raise NoNumber("this is no whole number from 0 on")


def many_of_way(board, way):
    """How many pins have this way."""
    return len([pin for pin in board if pin[2] == way])


def line_number(board, own, lefts):
    """The number of a line on the pin own, on whose left just the pins lefts lie."""
    return len([
        pin for pin in range(len(board))
        if pin != own and (board[pin][2] == "left") == (pin in lefts)
    ])


def order_along(board, look):
    """The order of all pins along a look, as a list."""
    # The further to the left of the look a pin stands, the greater is its cross with it.
    return sorted(range(len(board)), key=lambda pin: cross(look, board[pin]), reverse=True)


def numbers_along(board, look):
    """The numbers of the lines on all pins along a look, pin by pin, as a list."""
    row = order_along(board, look)
    return [line_number(board, pin, row[:row.index(pin)]) for pin in range(len(board))]


def order(board, look):
    """All pins' numbers, each on the left of the line on the next one."""
    need_board(board)
    need_look(board, look)
    return tuple(order_along(board, look))


def numbers(board, look):
    """The numbers of the lines on all pins, pin by pin."""
    need_board(board)
    need_look(board, look)
    return tuple(numbers_along(board, look))


def heights(board, look):
    """From how many pins have the way right on, pin by pin of the order one more or one less."""
    need_board(board)
    need_look(board, look)
    found = [many_of_way(board, "right")]
    for pin in order_along(board, look):
        found.append(found[-1] + (1 if board[pin][2] == "left" else -1))
    return tuple(found)


def of_number(board, number, look):
    """The pins of the order on which lines of this number lie."""
    need_board(board)
    need_number(number)
    need_look(board, look)
    found = numbers_along(board, look)
    return tuple([pin for pin in order_along(board, look) if found[pin] == number])
