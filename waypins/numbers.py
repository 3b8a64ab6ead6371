"""The numbers of the lines that lie on pins along a look."""

from waypins.boards import is_whole, need_board, need_look
from waypins.errors import NoNumber


def need_number(number):
    """Refuse what is no whole number from 0 on."""
    if not is_whole(number) or number < 0:
        raise NoNumber("this is no whole number from 0 on")


def order_along(board, look):
    """The order of all pins along a look, as a list; refused is what is no look."""
    found = need_look(board, look)
    return [found[far] for far in sorted(found, reverse=True)]


def first_height(board):
    """How many pins have the way right."""
    return len([pin for pin in board if pin[2] == "right"])


def numbers_along(board, row):
    """The numbers of the lines on the pins of the order, as a list."""
    # Each is the lesser of the heights on both sides of its pin.
    height = first_height(board)
    found = []
    for pin in row:
        if board[pin][2] == "left":
            found.append(height)
            height += 1
        else:
            height -= 1
            found.append(height)
    return found


def order(board, look):
    """All pins' numbers, each on the left of the line on the next one."""
    need_board(board)
    return tuple(order_along(board, look))


def numbers(board, look):
    """The numbers of the lines on all pins, pin by pin."""
    need_board(board)
    row = order_along(board, look)
    found = [0] * len(board)
    for pin, number in zip(row, numbers_along(board, row)):
        found[pin] = number
    return tuple(found)


def heights(board, look):
    """From how many pins have the way right on, pin by pin of the order one more or one less."""
    need_board(board)
    found = [first_height(board)]
    for pin in order_along(board, look):
        found.append(found[-1] + (1 if board[pin][2] == "left" else -1))
    return tuple(found)


def of_number(board, number, look):
    """The pins of the order on which lines of this number lie."""
    need_board(board)
    need_number(number)
    row = order_along(board, look)
    return tuple([pin for pin, told in zip(row, numbers_along(board, row)) if told == number])
