"""Stands of a line, and the beats by which it goes from one to the next."""

from waypins.boards import OTHER_WAY, gap, is_pin_number, is_tuple_of, need_board, need_look, need_pin
from waypins.errors import NoNumber, NoStand
from waypins.numbers import need_number
from waypins.turns import OTHER_WORD, Turns, first_met, trail, turned_pairs, ways_of

WORDS = ("ahead", "behind")
MOST_BEATS = 1000000000000


def stand_holds(board, thing):
    """Whether it is a stand, on what is a board."""
    if not is_tuple_of(thing, 3):
        return False
    own, last, word = thing
    if not is_pin_number(board, own) or not is_pin_number(board, last):
        return False
    return own != last and word in WORDS


def need_stand(board, stand):
    """Refuse what is no stand."""
    if not stand_holds(board, stand):
        raise NoStand("this is no stand on this board")


def need_beats(many):
    """Refuse what is no number of beats."""
    need_number(many)
    if many > MOST_BEATS:
        raise NoNumber("these are more beats than a million million")


def look_of(board, stand):
    """Where the line in a stand looks."""
    own, last, word = stand
    if word == "ahead":
        return gap(board[own], board[last])
    return gap(board[last], board[own])


def stand_met(board, pin, look):
    """The stand in which a line on the pin, which looks so, is as soon as it meets another one."""
    other, word = first_met(board, pin, look, board[pin][2])
    return (other, pin, OTHER_WORD[word])


def line_number(board, stand):
    """The number of the line in what is a stand."""
    own, last, word = stand
    look_x, look_y = look_of(board, stand)
    x, y, own_way = board[own]
    # What lay ahead falls to the right of a line that turns to the left, and the other way about.
    last_way = "left" if (word == "ahead") == (own_way == "right") else "right"
    many = 1 if board[last][2] == last_way else 0
    for other_x, other_y, way in board:
        left = look_x * (other_y - y) - look_y * (other_x - x)
        if left != 0 and (left > 0) == (way == "left"):
            many += 1
    return many


def stands_from(board, stand):
    """The stands from this one on, beat by beat, till it would come again, as a list."""
    turns = Turns(board)
    slots = trail(turns.steps(ways_of(board)), turns.slot(stand))
    return [turns.stands[slot] for slot in slots]


def is_stand(board, thing):
    """Whether it is a stand of the board, of anything."""
    need_board(board)
    return stand_holds(board, thing)


def number_of(board, stand):
    """The number of the line in this stand as soon as it has turned ever so little."""
    need_board(board)
    need_stand(board, stand)
    return line_number(board, stand)


def beat(board, stand):
    """The stand behind one beat."""
    need_board(board)
    need_stand(board, stand)
    return stand_met(board, stand[0], look_of(board, stand))


def ahead(board, stand):
    """The stand of which this one is a beat behind."""
    need_board(board)
    need_stand(board, stand)
    last = stand[1]
    # Turned back about the pin that was own, the line comes to the one that was last first.
    other, word = first_met(board, last, look_of(board, stand), OTHER_WAY[board[last][2]])
    return (last, other, word)


def first(board, pin, look):
    """The stand in which the line that lies so is when it has met a pin first."""
    need_board(board)
    need_pin(board, pin)
    need_look(board, look)
    return stand_met(board, pin, look)


def after(board, stand, many):
    """The stand behind so many beats."""
    need_board(board)
    need_stand(board, stand)
    need_beats(many)
    found = stands_from(board, stand)
    return found[many % len(found)]


def meetings(board, pin):
    """What a line on the pin, which turns to the left, meets in one turn: (other, word), one behind the other."""
    need_board(board)
    need_pin(board, pin)
    half = [
        (other, "ahead") if one == pin else (one, "behind")
        for one, other in turned_pairs(board) if pin in (one, other)
    ]
    return tuple(half + [(other, OTHER_WORD[word]) for other, word in half])
