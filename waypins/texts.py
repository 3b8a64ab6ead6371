"""Texts that write boards, pin by pin: `0,0< 40,3< 11,29>`."""

from waypins.boards import is_board, need_board
from waypins.errors import NoText

FIGURES = "0123456789"
# How many figures a place of a pin has at most.
PLACE_FIGURES = 2
SIGNS = {"left": "<", "right": ">"}
WAYS_OF_SIGNS = {"<": "left", ">": "right"}


def is_figures(word, most):
    """Whether the word writes a number from 0 on in at most so many figures, with no nought ahead but 0 itself."""
    if not 1 <= len(word) <= most or not all([sign in FIGURES for sign in word]):
        return False
    return word == "0" or word[0] != "0"


def read_pin(word):
    """The pin that the word writes."""
    way = WAYS_OF_SIGNS.get(word[-1:])
    x, _, y = word[:-1].partition(",")
    if way is None or not is_figures(x, PLACE_FIGURES) or not is_figures(y, PLACE_FIGURES):
        raise NoText("a word of this writes no pin")
    return (int(x), int(y), way)


def board_text(board):
    """The text that writes the board."""
    need_board(board)
    return " ".join([f"{x},{y}{SIGNS[way]}" for x, y, way in board])


def read_board(text):
    """The board that the text writes."""
    if not isinstance(text, str):
        raise NoText("this is no text")
    board = tuple([read_pin(word) for word in text.split(" ")])
    if not is_board(board):
        raise NoText("the pins that this writes make no board")
    return board
