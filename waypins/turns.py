"""How the lines of a board turn: what a line meets first, and all turns of a board at once.

What tells how soon a turn comes to a direction is its lean against the look from which the line turns: how far it goes
along the look to how far it goes to the left of it, the same of a direction and its opposite. To the left, the greater
comes the sooner; to the right, the less. (It is taken FINE times, in whole numbers.)
"""

from waypins.boards import FINE, WAYS

OTHER_WORD = {"ahead": "behind", "behind": "ahead"}
# The look (1000, 1), from which meetings are told, in smaller numbers: no look between the two is along two places.
START_X = 100
START_Y = 1


def first_met(board, pin, look, way):
    """The (other, word) that a line on the pin, which looks so, meets first by the way.

    What it lies along at first is left out.
    """
    look_x, look_y = look
    x, y, _ = board[pin]
    found = []
    for other, (other_x, other_y, _) in enumerate(board):
        gap_x = other_x - x
        gap_y = other_y - y
        left = look_x * gap_y - look_y * gap_x
        if left != 0:
            found.append(((look_x * gap_x + look_y * gap_y) * FINE // left, other, left > 0))
    _, other, on_left = max(found) if way == "left" else min(found)
    return (other, "ahead" if on_left == (way == "left") else "behind")


def turned_pairs(board):
    """All pairs (one, other) of pins, in the order in which half a turn to the left from the start looks so."""
    # Each of the spots lies to the left of all ahead of it, so half a turn comes to look from these to it.
    spots = sorted([
        (START_X * y - START_Y * x, (START_X * x + START_Y * y) * FINE, pin)
        for pin, (x, y, _) in enumerate(board)
    ])
    found = [
        ((along - one_along) // (left - one_left), one, other)
        for at, (left, along, other) in enumerate(spots) for one_left, one_along, one in spots[:at]
    ]
    return [(one, other) for _, one, other in sorted(found, reverse=True)]


def crossings(board):
    """The stands of all slots (see Turns), and for each slot the one to which its line goes over on the last pin."""
    many = len(board)
    half = many - 1
    stands = [None] * (many * half * 2)
    across = [0] * (many * half * 2)
    free = [pin * half * 2 for pin in range(many)]
    for one, other in turned_pairs(board):
        at = free[one]
        to = free[other]
        free[one] = at + 1
        free[other] = to + 1
        stands[at] = (one, other, "ahead")
        stands[to] = (other, one, "behind")
        # Half a turn later the line lies so again, the other way about.
        stands[at + half] = (one, other, "behind")
        stands[to + half] = (other, one, "ahead")
        across[at] = to
        across[to] = at
        across[at + half] = to + half
        across[to + half] = at + half
    return stands, across


def next_along(row, way):
    """Of a row of what a line meets about one pin by the way left, the next ones that it meets by a way, as a list."""
    return row[1:] + row[:1] if way == "left" else row[-1:] + row[:-1]


class Turns:
    """All stands of a board by their slots, and where a line comes from each by either way.

    A slot is a number from 0 on. The slots of one pin are neighbours, in the order in which a line on it that turns to
    the left from the start meets the others: so to the left it comes from slot to slot, and from the last one of its
    pin to the first one as it passes the start; to the right it comes from slot to slot the other way. Where it meets
    a pin it goes over to this one: across tells to which slot, behind tells for each way of the own pin which slot is
    one beat behind.
    """

    def __init__(self, board):
        stands, across = crossings(board)
        self.width = 2 * len(board) - 2
        self.stands = stands
        self.across = across
        self.behind = {"left": [], "right": []}
        for start in range(0, len(stands), self.width):
            row = across[start:start + self.width]
            for way in WAYS:
                self.behind[way] += next_along(row, way)

    def slot(self, stand):
        """The slot of a stand."""
        return self.stands.index(stand, stand[0] * self.width)

    def own(self, slot):
        """The own pin of the stand in a slot."""
        return slot // self.width

    def slots_of(self, pin):
        """The slots of a pin, as a list."""
        return list(range(pin * self.width, (pin + 1) * self.width))

    def steps(self, ways):
        """For each slot the one that is a beat behind, where the pins have these ways."""
        found = []
        for pin, way in enumerate(ways):
            found += self.behind[way][pin * self.width:(pin + 1) * self.width]
        return found

    def winding(self, ways, slots):
        """How often the line of a round of these slots passes the start to the left, less how often to the right."""
        many = 0
        for pin, way in enumerate(ways):
            if way == "left":
                many += slots.count((pin + 1) * self.width - 1)
            else:
                many -= slots.count(pin * self.width)
        return many


def ways_of(board):
    """The ways of all pins, as a list."""
    return [way for _, _, way in board]


def with_way(ways, pin, way):
    """The ways where this pin has this one."""
    return ways[:pin] + (way,) + ways[pin + 1:]


def trail(steps, start):
    """The slots from the start on, step by step, till it would come again, as a list."""
    found = [start]
    here = steps[start]
    while here != start:
        found.append(here)
        here = steps[here]
    return found


def all_trails(steps):
    """The trails that hold all slots, each slot in one of them."""
    found = []
    known = [False] * len(steps)
    for start in range(len(steps)):
        if not known[start]:
            slots = trail(steps, start)
            for slot in slots:
                known[slot] = True
            found.append(slots)
    return found
