"""Boards, stands and wrong things that the tests share."""

import itertools

LEFT, RIGHT = "left", "right"
MILLION_MILLION = 10 ** 12

SMALL = ((0, 0, LEFT), (40, 3, LEFT), (11, 29, RIGHT))

PLACES = (
    ((0, 57), (99, 99), (99, 71)),
    ((23, 99), (0, 80), (99, 78), (12, 0)),
    ((99, 94), (78, 99), (83, 0), (20, 79), (0, 83)),
    ((29, 81), (99, 75), (25, 99), (66, 0), (37, 63), (0, 56)),
    ((98, 0), (72, 99), (13, 51), (99, 8), (49, 8), (13, 37), (0, 3)),
    ((1, 52), (17, 31), (39, 99), (99, 11), (97, 15), (42, 0), (90, 12), (0, 43)),
)
# As near one another as places are, as near one line as three pins can be, and both.
TIGHT = (
    ((0, 0), (1, 0), (0, 1)),
    ((0, 0), (99, 98), (98, 97)),
    ((50, 50), (51, 50), (50, 51), (52, 53), (49, 54)),
)
WAYS = (
    (LEFT, RIGHT, LEFT, LEFT, RIGHT, RIGHT, LEFT, RIGHT),
    (RIGHT, RIGHT, LEFT, RIGHT, RIGHT, LEFT, RIGHT, RIGHT),
    (LEFT,) * 8,
    (RIGHT,) * 8,
)


def pinned(places, ways):
    return tuple((x, y, way) for (x, y), way in zip(places, ways))


# Three to eight pins, the ways mixed and all alike.
BOARDS = (SMALL,) + tuple(pinned(places, ways) for places in PLACES + TIGHT for ways in WAYS)
MIXED = tuple(pinned(places, WAYS[0]) for places in PLACES)
LOOKS = (
    (1000, 1), (-1000, -1), (1, 1000), (-1, 1000), (1001, -1000), (-707, -1009), (313, 991),
    (9999999999973, 7777777777777), (-1234567890123, 9876543210987), (8000000000013, 600000000001),
)


def other_way(way):
    return RIGHT if way == LEFT else LEFT


def ways_turned(board, pins):
    return tuple((x, y, other_way(way) if at in pins else way) for at, (x, y, way) in enumerate(board))


def all_stands(board):
    return [
        (own, last, word)
        for own, last in itertools.permutations(range(len(board)), 2)
        for word in ("ahead", "behind")
    ]


def subsets(many):
    return [pins for size in range(many + 1) for pins in itertools.combinations(range(many), size)]


def changed(board, at, **parts):
    """The board with some parts of one pin changed."""
    x, y, way = board[at]
    pin = (parts.get("x", x), parts.get("y", y), parts.get("way", way))
    return board[:at] + (pin,) + board[at + 1:]


def text_of(board):
    words = []
    for x, y, way in board:
        words.append(str(x) + "," + str(y) + ("<" if way == LEFT else ">"))
    return " ".join(words)


def nested(depth):
    thing = 0
    for _ in range(depth):
        thing = (thing,)
    return thing


STRANGE = (
    None, True, False, "", "left", "ahead", "a" * 2000, "\t\n ~", [], {}, {"x": 1}, {0: (1,)}, {(0, 1): [None]},
    [0, [1, (2, {"a": [None, True]})]], nested(8), (0,) * 2000, [[]] * 2000, ((),), ([],), (None, None),
    ("left", "left", "left"), ([], [], []), ({}, {}, {}), (None, None, None), (True, False, True),
    # Things of kinds that the document does not tell of; some of them are equal to numbers.
    0.0, 1.0, 2.5, 1j, b"", b"left", {0, 1}, frozenset((0, 1)), range(3), len, int,
)
# Neither of these is what it looks like.
SIGNS_LIKE_FIGURES = ("\u0661", "\u00b2", "\uff11")


def wrong_boards():
    """Things that are no board, each but for a little one."""
    nine = pinned(PLACES[5], WAYS[0]) + ((60, 93, LEFT),)
    found = [
        *STRANGE, (), 0, 3, 10 ** 12, "0,0< 40,3< 11,29>",
        list(SMALL), dict(enumerate(SMALL)), SMALL[:1], SMALL[:2], nine, SMALL[0], (SMALL,), (SMALL,) * 3,
        tuple(list(pin) for pin in SMALL),
        tuple((x, y) for x, y, _ in SMALL),
        tuple(pin + (0,) for pin in SMALL),
        SMALL[:2] + ([11, 29, RIGHT],), SMALL[:2] + (None,), SMALL[:2] + ((11, 29),), SMALL[:2] + ((29, RIGHT, 11),),
        # The places that are told 0 and 1 as truths: Python takes them for alike.
        ((False, 0, LEFT), (40, 3, LEFT), (11, 29, RIGHT)),
        ((0, False, LEFT), (40, 3, LEFT), (11, 29, RIGHT)),
        ((True, 52, RIGHT), (17, 31, LEFT), (39, 99, LEFT)),
        ((52, True, RIGHT), (17, 31, LEFT), (39, 99, LEFT)),
        # Three on one line, two pairs along one direction (and the other way), two at one place.
        ((0, 0, LEFT), (10, 10, LEFT), (99, 99, RIGHT)),
        ((5, 0, LEFT), (5, 40, LEFT), (5, 99, RIGHT)),
        ((0, 7, LEFT), (50, 7, LEFT), (99, 7, RIGHT)),
        ((0, 0, LEFT), (3, 1, RIGHT), (50, 90, LEFT), (56, 92, RIGHT)),
        ((0, 0, LEFT), (3, 1, RIGHT), (56, 92, LEFT), (50, 90, RIGHT)),
        ((0, 0, LEFT), (0, 10, RIGHT), (30, 90, LEFT), (30, 95, RIGHT)),
        ((0, 0, LEFT), (0, 0, LEFT), (11, 29, RIGHT)),
        ((0, 0, LEFT), (0, 0, RIGHT), (40, 3, LEFT), (11, 29, RIGHT)),
        SMALL + (SMALL[2],),
    ]
    for at in range(3):
        for bad in (-1, 100, 10 ** 12, None, True, "5", "", (5,), [5], {}):
            found += [changed(SMALL, at, x=bad), changed(SMALL, at, y=bad)]
        for bad in ("", "up", "Left", "left ", "ahead", None, True, 0, 1, [LEFT], (RIGHT,), {LEFT: 1}, "leftright"):
            found.append(changed(SMALL, at, way=bad))
    return found


def wrong_numbers():
    return [*STRANGE, (), (0,), [0], {0: 0}, "0", "1", -1, -2, -10 ** 12]


def wrong_beats():
    return [*wrong_numbers(), MILLION_MILLION + 1, MILLION_MILLION * 2, 9999999999999]


def wrong_pin_numbers(board):
    many = len(board)
    return [*wrong_numbers(), many, many + 1, -many, 10 ** 12, board[0]]


def wrong_pin_tuples(board):
    many = len(board)
    return [
        *[thing for thing in STRANGE if thing != ()], 0, 1, "01", [0], [0, 1], {0: 1}, (0, 0), (1, 0), (2, 1),
        (0, 2, 1), (0, 1, 1), (2, 1, 0), (-1,), (-1, 0), (many,), (0, many), (True,), (False,), (False, 1), (0, True),
        (None,), ("0",), ((0,),), ([0],), (0, None), (0, "1"), (0, [1]), board,
    ]


def wrong_looks(board):
    found = [
        *STRANGE, (), 0, 1000, "1000 1", [1000, 1], {1000: 1}, (1000,), (1000, 1, 0), (0, 0), (1000, True), (True, 1000),
        (1000, False), (False, 1000), (False, False), (None, 1), (1000, None), ("1000", "1"), ((1000,), 1), ([1000], 1),
        (1000, {}),
    ]
    for (px, py, _), (qx, qy, _) in itertools.permutations(board, 2):
        x, y = qx - px, qy - py
        found += [(x, y), (7 * x, 7 * y), (10 ** 11 * x, 10 ** 11 * y)]
    return found


def wrong_stands(board):
    many = len(board)
    found = [
        *STRANGE, (), 0, 1, "0 1 ahead", [0, 1, "ahead"], {0: 1}, (0, 1), (0, 1, "ahead", 0), ((0, 1, "ahead"),),
        ("ahead", 0, 1), (0, "ahead", 1), (True, 0, "ahead"), (0, True, "ahead"), (False, 1, "behind"),
        (1, False, "behind"), (True, False, "ahead"), (-1, 0, "ahead"), (0, -1, "ahead"), (many, 0, "ahead"),
        (0, many, "behind"), (many, many + 1, "behind"),
    ]
    found += [(pin, pin, word) for pin in range(many) for word in ("ahead", "behind")]
    for bad in (None, "0", "", (0,), [0], {}, 10 ** 12):
        found += [(bad, 1, "ahead"), (1, bad, "behind")]
    for bad in (None, True, 0, "", "left", "Ahead", "ahead ", "aheadbehind", ["ahead"], ("ahead",), {"ahead": 1}):
        found.append((0, 1, bad))
    return found


def wrong_rows(board):
    many = len(board)
    return [
        *STRANGE, (), 0, 1, "0", "01", [0], [0, 1], {0: 1}, (0,) * 31, (0, 1) * 15 + (0,), (0, 1) * 100,
        (-1,), (many,), (0, many), (0, -1), (0, 1, 0, 1, many), (10 ** 12,), (True,), (False,), (0, True), (False, 1),
        (True, False), (None,), ("0",), (0, None), (0, "1"), (0, (1,)), (0, [1]), ((0, 1),), ([0, 1],),
        (0, 1, "ahead"), ((0, 1, "ahead"),),
        board,
    ]


def wrong_texts():
    """Things that are no board's text, each but for a little one."""
    right = text_of(SMALL)
    nine = text_of(MIXED[5]) + " 60,93<"
    found = [
        *STRANGE, (), 0, [right], (right,), {right: right}, SMALL, right.encode(), " ", "  ", ",", "<", ",<", "0,0<",
        "0,0< 40,3<", nine, "0,0< 10,10< 99,99>", "5,0< 5,40< 5,99>", "0,0< 3,1> 50,90< 56,92>", "0,0< 0,0> 11,29>",
        " " + right, right + " ", "\n" + right, right + "\n", right + "\t", right.replace(" ", "\t"),
        right.replace(" ", "\n"), right.replace(" ", "  "), "0,0<  40,3< 11,29>", "0,0< 40,3<  11,29>",
        right.replace(" ", ""), right.replace(" ", ","), "0, 0< 40,3< 11,29>", "0 ,0< 40,3< 11,29>",
        "0,0 < 40,3< 11,29>", "board " + right, right + ".", right.upper() + "L", "0,0L 40,3L 11,29R",
        "0,0left 40,3left 11,29right", "<0,0 <40,3 >11,29", "0;0< 40;3< 11;29>", "(0,0<) (40,3<) (11,29>)",
        "0,0<40,3< 11,29>", "0,0 40,3 11,29", "0,0<< 40,3< 11,29>", "0,0<> 40,3< 11,29>", "0,0,0< 40,3< 11,29>",
        "0< 40,3< 11,29>", ",0< 40,3< 11,29>", "0,< 40,3< 11,29>", "0,,0< 40,3< 11,29>", ",< 40,3< 11,29>",
    ]
    for bad in ("00", "01", "000", "007", "+1", "+0", "-0", "-1", "100", "099", "1000000000000", "1.0", "1e1", "0x1",
                "1_1", "a", "", " 1", "True", *SIGNS_LIKE_FIGURES):
        for text in (f"{bad},0<", f"0,{bad}<"):
            found += [f"{text} 40,3< 11,29>", f"40,3< {text} 11,29>", f"11,29> 40,3< {text}"]
    return found
