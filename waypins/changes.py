"""What a pin's way turned, or a pin taken, does to the rounds of a board."""

from waypins.boards import OTHER_WAY, need_board, need_one_to_spare, need_pin
from waypins.rounds import all_rounds, comes_to
from waypins.turns import Turns, all_trails, ways_of, with_way


def rounds_past(board, pin):
    """The rising tuple of the rounds that never come to the pin.

    Just these stay as they are where its way is turned, or where it is taken: a line that never comes to it meets what
    it meets without it, and a line that comes to it goes on otherwise.
    """
    return tuple([stands for stands in all_rounds(board) if not comes_to(stands, pin)])


def count_turned(board, pin):
    """(before, behind): how many rounds there are, and how many where this pin's way is turned."""
    need_board(board)
    need_pin(board, pin)
    turns = Turns(board)
    ways = tuple(ways_of(board))
    turned = with_way(ways, pin, OTHER_WAY[ways[pin]])
    return (len(all_trails(turns.steps(ways))), len(all_trails(turns.steps(turned))))


def rounds_kept(board, pin):
    """The rising tuple of the rounds that are rounds where this pin's way is turned, too."""
    need_board(board)
    need_pin(board, pin)
    return rounds_past(board, pin)


def rounds_left(board, pin):
    """The rising tuple of the rounds that are rounds of the board without this pin, too, told by its own numbers."""
    need_board(board)
    need_pin(board, pin)
    need_one_to_spare(board)
    return rounds_past(board, pin)
