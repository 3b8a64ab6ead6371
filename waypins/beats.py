"""Stands of a line, and the beats by which it goes from one to the next."""

from waypins.boards import OTHER_WAY, cross, gap, is_pin_number, is_tuple_of, need_board, need_look, need_pin
from waypins.errors import NoNumber, NoStand
from waypins.numbers import line_number, need_number

OTHER_WORD = {"ahead": "behind", "behind": "ahead"}
WORDS = ("ahead", "behind")
MOST_BEATS = 1000000000000
MEETINGS_LOOK = (1000, 1)


def stand_holds(board, thing):
    """Whether it is a stand, on what is a board."""
    if not is_tuple_of(thing, 3):
        return False
    own, last, word = thing
    if not is_pin_number(board, own) or not is_pin_number(board, last):
        return False
    return own != last and word in WORDS


def need_stand(board, stand):
    """Refuse what is no stand."""
    if not stand_holds(board, stand):
        raise NoStand("this is no stand on this board")


def need_beats(many):
    """Refuse what is no number of beats."""
    need_number(many)
    if many > MOST_BEATS:
        raise NoNumber("these are more beats than a million million")


def look_of(board, stand):
    """Where the line in a stand looks."""
    own, last, word = stand
    if word == "ahead":
        return gap(board[own], board[last])
    return gap(board[last], board[own])


def comes_to(one, other, way):
    """Whether what looks along one looks along other ahead of half a turn by the way."""
    turn = cross(one, other)
    return turn > 0 if way == "left" else turn < 0


def half_turn(board, pin, look, way):
    """The (other, word) that a line on the pin, which looks so, meets in half a turn by the way, one behind the other.

    What it lies along at first is left out.
    """
    met = []
    for other, place in enumerate(board):
        ahead_look = gap(board[pin], place)
        if comes_to(look, ahead_look, way):
            met.append((ahead_look, other, "ahead"))
        behind_look = gap(place, board[pin])
        if comes_to(look, behind_look, way):
            met.append((behind_look, other, "behind"))
    # All these looks lie within one half turn, so each comes behind as many as come to it.
    rows = sorted(met, key=lambda row: len([one for one in met if comes_to(one[0], row[0], way)]))
    return [(row[1], row[2]) for row in rows]


def stand_met(board, pin, look):
    """The stand in which a line on the pin, which looks so, is as soon as it meets another one."""
    other, word = half_turn(board, pin, look, board[pin][2])[0]
    return (other, pin, OTHER_WORD[word])


def next_stand(board, stand):
    """The stand one beat behind this one."""
    return stand_met(board, stand[0], look_of(board, stand))


def stands_from(board, stand):
    """The stands from this one on, beat by beat, till it would come again, as a list."""
    found = [stand]
    here = next_stand(board, stand)
    while here != stand:
        found.append(here)
        here = next_stand(board, here)
    return found


def is_stand(board, thing):
    """Whether it is a stand of the board, of anything."""
    need_board(board)
    return stand_holds(board, thing)


def number_of(board, stand):
    """The number of the line in this stand as soon as it has turned ever so little."""
    need_board(board)
    need_stand(board, stand)
    own, last, word = stand
    look = look_of(board, stand)
    lefts = [pin for pin, place in enumerate(board) if cross(look, gap(board[own], place)) > 0]
    # What lay ahead falls to the right of a line that turns to the left, and the other way about.
    if (word == "ahead") == (board[own][2] == "right"):
        lefts.append(last)
    return line_number(board, own, lefts)


def beat(board, stand):
    """The stand behind one beat."""
    need_board(board)
    need_stand(board, stand)
    return next_stand(board, stand)


def ahead(board, stand):
    """The stand of which this one is a beat behind."""
    need_board(board)
    need_stand(board, stand)
    last = stand[1]
    # Turned back about the pin that was own, the line comes to the one that was last first.
    back = OTHER_WAY[board[last][2]]
    other, word = half_turn(board, last, look_of(board, stand), back)[0]
    return (last, other, word)


def first(board, pin, look):
    """The stand in which the line that lies so is when it has met a pin first."""
    need_board(board)
    need_pin(board, pin)
    need_look(board, look)
    return stand_met(board, pin, look)


def after(board, stand, many):
    """The stand behind so many beats."""
    need_board(board)
    need_stand(board, stand)
    need_beats(many)
    found = stands_from(board, stand)
    return found[many % len(found)]


def meetings(board, pin):
    """What a line on the pin, which turns to the left, meets in one turn: (other, word), one behind the other."""
    need_board(board)
    need_pin(board, pin)
    half = half_turn(board, pin, MEETINGS_LOOK, "left")
    return tuple(half + [(other, OTHER_WORD[word]) for other, word in half])
