"""What the document says, found by another road than the program's: angles for turns, fractions for slopes."""

import math
from fractions import Fraction

# Two lines through one pin are at least 1 / 19602 apart.
LITTLE = 1e-6
ROUND = 2 * math.pi


def slope(one, other):
    if one[0] == other[0]:
        return None
    return Fraction(other[1] - one[1], other[0] - one[0])


def fits(board):
    """Whether pins, each one well made, make a board."""
    pairs = [(one, other) for at, one in enumerate(board) for other in board[:at]]
    if any(one[:2] == other[:2] for one, other in pairs):
        return False
    slopes = [slope(one, other) for one, other in pairs]
    return len(set(slopes)) == len(slopes)


def lies_left(board, own, look, pin):
    x, y = look
    (px, py, _), (qx, qy, _) = board[own], board[pin]
    return x * (qy - py) > y * (qx - px)


def numbers(board, look):
    found = []
    for own in range(len(board)):
        count = 0
        for pin, (_, _, way) in enumerate(board):
            if pin != own and (way == "left") == lies_left(board, own, look, pin):
                count += 1
        found.append(count)
    return tuple(found)


def order(board, look):
    row = [None] * len(board)
    for own in range(len(board)):
        row[sum(pin != own and lies_left(board, own, look, pin) for pin in range(len(board)))] = own
    return tuple(row)


def angle(board, one, other):
    return math.atan2(board[other][1] - board[one][1], board[other][0] - board[one][0])


def stand_angle(board, stand):
    own, last, word = stand
    return angle(board, own, last) if word == "ahead" else angle(board, own, last) + math.pi


def meets(board, own, start, way):
    """(how far turned, other, word) of all that a line on own meets in one turn from the angle start."""
    found = []
    for other in range(len(board)):
        if other == own:
            continue
        for word, far in (("ahead", 0), ("behind", math.pi)):
            turned = angle(board, own, other) + far - start
            turned = (turned if way == "left" else -turned) % ROUND
            if LITTLE < turned < ROUND - LITTLE:
                found.append((turned, other, word))
    return sorted(found)


def stand_when_met(board, own, start):
    _, other, word = meets(board, own, start, board[own][2])[0]
    return (other, own, "behind" if word == "ahead" else "ahead")


def beat(board, stand):
    return stand_when_met(board, stand[0], stand_angle(board, stand))


def first(board, pin, look):
    return stand_when_met(board, pin, math.atan2(look[1], look[0]))


def number_of(board, stand):
    own = stand[0]
    turn = LITTLE if board[own][2] == "left" else -LITTLE
    now = stand_angle(board, stand) + turn
    count = 0
    for pin, (_, _, way) in enumerate(board):
        if pin != own:
            count += (way == "left") == (math.sin(angle(board, own, pin) - now) > 0)
    return count


def meetings(board, pin):
    return tuple((other, word) for _, other, word in meets(board, pin, math.atan2(1, 1000), "left"))
