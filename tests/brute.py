"""What the document says of whole rounds, found by trying all: beats by the oracle's angles, ways one set by one."""

import functools
import itertools
import math

import kit
import oracle

WORDS = {1: "left", -1: "right", 0: "none"}


@functools.lru_cache(maxsize=None)
def beats_by(places, way):
    """The stand one beat behind each stand, where all pins have this way."""
    board = kit.pinned(places, (way,) * len(places))
    return {stand: oracle.beat(board, stand) for stand in kit.all_stands(board)}


def places_of(board):
    return tuple(pin[:2] for pin in board)


def ways_of(board):
    return tuple(pin[2] for pin in board)


def steps(board):
    """The stand one beat behind each stand. (A beat hangs on the own pin's way alone.)"""
    places = places_of(board)
    both = {way: beats_by(places, way) for way in (kit.LEFT, kit.RIGHT)}
    return {stand: both[board[stand[0]][2]][stand] for stand in both[kit.LEFT]}


def trail(steps_of_it, stand):
    """The stands from this one on till it comes again."""
    found = [stand]
    while steps_of_it[found[-1]] != stand:
        found.append(steps_of_it[found[-1]])
    return found


def round_of(board, stand):
    found = trail(steps(board), stand)
    at = found.index(min(found))
    return tuple(found[at:] + found[:at])


@functools.lru_cache(maxsize=None)
def rounds(board):
    found = []
    to_do = set(kit.all_stands(board))
    onward = steps(board)
    while to_do:
        row = trail(onward, min(to_do))
        found.append(tuple(row))
        to_do -= set(row)
    return tuple(found)


def turned(board, one, other):
    """How far a line turns from one stand to the one behind it, by its angle, to the left above 0."""
    far = (oracle.stand_angle(board, other) - oracle.stand_angle(board, one)) % oracle.ROUND
    return far if board[one[0]][2] == kit.LEFT else far - oracle.ROUND


def turning(board, stands):
    whole = sum(turned(board, one, other) for one, other in zip(stands, stands[1:] + stands[:1])) / oracle.ROUND
    assert abs(whole - round(whole)) < 1e-6
    return WORDS[round(whole)]


def passes(board, stands, look):
    """How often the line of a round passes the look to the left, less how often to the right."""
    count = 0
    at = math.atan2(look[1], look[0])
    for one, other in zip(stands, stands[1:] + stands[:1]):
        far = turned(board, one, other)
        to_look = (at - oracle.stand_angle(board, one)) % oracle.ROUND
        if far > 0 and to_look < far:
            count += 1
        if far < 0 and to_look - oracle.ROUND > far:
            count -= 1
    return count


def fewest(board, fits):
    """The least of the fewest pins for which the board with their ways turned fits, None where none do."""
    for pins in kit.subsets(len(board)):
        if fits(kit.ways_turned(board, pins)):
            return pins
    return None


def pins_of(board, stand):
    return {own for own, _, _ in trail(steps(board), stand)}


def stories(board, row):
    """All stories of a row, a list."""
    found = []
    for ways in itertools.product((kit.LEFT, kit.RIGHT), repeat=len(board)):
        onward = steps(kit.pinned(places_of(board), ways))
        for stand in onward:
            if owns_from(onward, stand, len(row)) == row:
                found.append((ways, stand))
    return found


def owns_from(onward, stand, many):
    found = []
    for _ in range(many):
        found.append(stand[0])
        stand = onward[stand]
    return tuple(found)
