"""[60], [61]: ways to be chosen."""

import unittest

import brute
import kit
from kit import BOARDS, MIXED, SMALL
from waypins.boards import with_ways
from waypins.errors import NoBoard, NoNumber, NoPins, NoStand
from waypins.rounds import pins_of, rounds, together
from waypins.wishes import bounds, joining, keeping_off, making, to_all

FAR = 9999999999999
STAND = (0, 1, "ahead")
# Stands from which one way turned leads a line not yet to all pins.
TWO_TO_TURN = (
    (kit.pinned(
        ((43, 44), (35, 43), (68, 90), (84, 90), (95, 7), (28, 19)),
        ("left", "left", "left", "left", "right", "left"),
    ), (3, 5, "ahead")),
    (kit.pinned(
        ((2, 65), (38, 82), (81, 14), (71, 54), (59, 96), (62, 85), (83, 50)),
        ("right", "right", "left", "left", "right", "right", "left"),
    ), (0, 5, "ahead")),
    (kit.pinned(
        ((58, 77), (3, 38), (14, 45), (66, 30), (98, 60), (64, 72), (60, 26), (58, 55)),
        ("left", "left", "left", "left", "right", "right", "left", "left"),
    ), (0, 3, "ahead")),
)


def some_stands(board):
    """All stands of a small board, some of a greater one."""
    return kit.all_stands(board)[::max(1, len(board) - 4) * 2 - 1]


def fewest_to_all(board, stand):
    return brute.fewest(board, lambda turned: len(brute.pins_of(turned, stand)) == len(board))


def fewest_keeping_off(board, stand, pins):
    return brute.fewest(board, lambda turned: not brute.pins_of(turned, stand) & set(pins))


def fewest_joining(board, one, other):
    return brute.fewest(board, lambda turned: other in brute.trail(brute.steps(turned), one))


class ToAll(unittest.TestCase):
    def test_every_stand_of_a_small_board(self):
        for stand in kit.all_stands(SMALL):
            self.assertEqual(repr(to_all(SMALL, stand)), "()")

    def test_by_trying_all(self):
        sizes = set()
        for board in BOARDS:
            for stand in some_stands(board):
                expected = fewest_to_all(board, stand)
                self.assertEqual(repr(to_all(board, stand)), repr(expected), (board, stand))
                sizes.add(None if expected is None else len(expected))
        self.assertTrue(sizes >= {0, 1}, sizes)

    def test_two_pins_are_to_be_turned(self):
        for board, stand in TWO_TO_TURN:
            expected = fewest_to_all(board, stand)
            self.assertEqual(len(expected), 2)
            self.assertEqual(repr(to_all(board, stand)), repr(expected))

    def test_it_comes_to_all_where_it_is_told(self):
        for board in MIXED:
            for stand in kit.all_stands(board):
                pins = to_all(board, stand)
                if pins is not None:
                    self.assertEqual(pins_of(with_ways(board, pins), stand), tuple(range(len(board))))

    def test_already(self):
        for board in MIXED:
            for stand in kit.all_stands(board):
                if len(pins_of(board, stand)) == len(board):
                    self.assertEqual(repr(to_all(board, stand)), "()")
                else:
                    self.assertNotEqual(to_all(board, stand), ())


class KeepingOff(unittest.TestCase):
    def test_no_pins_to_keep_off(self):
        for board in BOARDS:
            for stand in kit.all_stands(board):
                self.assertEqual(repr(keeping_off(board, stand, ())), "()")

    def test_by_trying_all(self):
        sizes = set()
        for board in MIXED[:5]:
            for stand in some_stands(board)[::2]:
                for pins in kit.subsets(len(board))[1::3]:
                    if stand[0] not in pins:
                        expected = fewest_keeping_off(board, stand, pins)
                        self.assertEqual(repr(keeping_off(board, stand, pins)), repr(expected), (board, stand, pins))
                        sizes.add(None if expected is None else len(expected))
        self.assertTrue(sizes >= {None, 0, 1, 2}, sizes)

    def test_by_trying_all_on_eight_pins(self):
        for board in BOARDS[21:25]:
            for stand, pins in ((STAND, (7,)), (STAND, (2, 5)), (STAND, (3, 4, 6)), ((6, 3, "behind"), (0, 5))):
                expected = fewest_keeping_off(board, stand, pins)
                self.assertEqual(repr(keeping_off(board, stand, pins)), repr(expected), (board, stand, pins))

    def test_its_own_way_may_be_turned_too(self):
        turned = [
            keeping_off(board, stand, (pin,)) for board in MIXED for stand in kit.all_stands(board)[::2]
            for pin in range(len(board)) if stand[0] == 0 and pin != 0
        ]
        self.assertTrue(any(pins and 0 in pins for pins in turned))

    def test_it_keeps_off_where_it_is_told(self):
        for board in MIXED:
            for stand in kit.all_stands(board)[::3]:
                for pin in range(len(board)):
                    if pin != stand[0]:
                        pins = keeping_off(board, stand, (pin,))
                        if pins is not None:
                            self.assertNotIn(pin, pins_of(with_ways(board, pins), stand))

    def test_none_of_the_last_pin_which_was_own_a_beat_ahead(self):
        for board in MIXED:
            for own, last, word in kit.all_stands(board):
                self.assertIsNone(keeping_off(board, (own, last, word), (last,)))

    def test_none_of_all_other_pins(self):
        for board in MIXED:
            for stand in kit.all_stands(board)[::5]:
                pins = tuple(pin for pin in range(len(board)) if pin != stand[0])
                self.assertIsNone(keeping_off(board, stand, pins))

    def test_pins_that_include_its_own(self):
        for board in (SMALL, MIXED[5]):
            for stand in kit.all_stands(board)[::3]:
                for pins in kit.subsets(len(board)):
                    if stand[0] in pins:
                        with self.assertRaises(NoPins):
                            keeping_off(board, stand, pins)

    def test_no_rising_tuple(self):
        for board in (SMALL, MIXED[5]):
            for pins in kit.wrong_pin_tuples(board):
                with self.subTest(pins), self.assertRaises(NoPins):
                    keeping_off(board, (1, 2, "ahead"), pins)


class Bounds(unittest.TestCase):
    def test_by_trying_all(self):
        for places in kit.PLACES + kit.TIGHT:
            boards = [kit.pinned(places, ways) for ways in kit.WAYS]
            counts = [len(brute.rounds(kit.ways_turned(boards[0], pins))) for pins in kit.subsets(len(places))]
            for board in boards:
                self.assertEqual(repr(bounds(board)), repr((min(counts), max(counts))), board)

    def test_a_small_board(self):
        self.assertEqual(repr(bounds(SMALL)), "(3, 3)")

    def test_some_boards_have_more_than_one_count(self):
        self.assertTrue(any(fewest < most for fewest, most in map(bounds, MIXED)))


class Making(unittest.TestCase):
    def test_each_number_by_trying_all(self):
        sizes = set()
        for board in BOARDS:
            counts = {}
            for pins in kit.subsets(len(board)):
                counts.setdefault(len(brute.rounds(kit.ways_turned(board, pins))), pins)
            for many in range(max(counts) + 4):
                expected = counts.get(many)
                self.assertEqual(repr(making(board, many)), repr(expected), (board, many))
                sizes.add(None if expected is None else len(expected))
        self.assertTrue(sizes >= {None, 0, 1, 2}, sizes)

    def test_as_many_as_there_are_takes_none(self):
        for board in BOARDS:
            self.assertEqual(repr(making(board, len(rounds(board)))), "()")

    def test_the_fewest_and_the_most_and_one_beyond_them(self):
        for board in MIXED:
            fewest, most = bounds(board)
            for many in (fewest, most):
                self.assertEqual(len(rounds(with_ways(board, making(board, many)))), many)
            for many in (fewest - 1, fewest - 2, most + 1, most + 2):
                self.assertIsNone(making(board, many))

    def test_an_odd_one_off(self):
        for board in MIXED:
            for many in range(20):
                if (many - len(board)) % 2:
                    self.assertIsNone(making(board, many))

    def test_numbers_from_0_on_that_no_ways_make(self):
        for board in (SMALL, *MIXED):
            for many in (0, 113, 114, 1000, 10 ** 12, FAR):
                self.assertIsNone(making(board, many))

    def test_no_number(self):
        for many in kit.wrong_numbers():
            with self.subTest(many), self.assertRaises(NoNumber):
                making(SMALL, many)


class Joining(unittest.TestCase):
    def test_by_trying_all(self):
        sizes = set()
        for board in MIXED[:5]:
            stands = kit.all_stands(board)
            for one in stands[::7]:
                for other in stands[::4]:
                    expected = fewest_joining(board, one, other)
                    self.assertEqual(repr(joining(board, one, other)), repr(expected), (board, one, other))
                    sizes.add(None if expected is None else len(expected))
        self.assertTrue(sizes >= {None, 0, 1, 2}, sizes)

    def test_by_trying_all_on_eight_pins(self):
        for board in BOARDS[21:25]:
            stands = kit.all_stands(board)
            for one, other in ((0, 5), (17, 99), (50, 51), (111, 3), (60, 75)):
                expected = fewest_joining(board, stands[one], stands[other])
                self.assertEqual(repr(joining(board, stands[one], stands[other])), repr(expected))

    def test_alike_stands(self):
        for board in BOARDS:
            for stand in kit.all_stands(board):
                self.assertEqual(repr(joining(board, stand, stand)), "()")

    def test_already_together(self):
        for board in MIXED:
            stands = kit.all_stands(board)
            for one in stands[::9]:
                for other in stands[::2]:
                    joined = together(board, one, other)[0] == "one"
                    self.assertEqual(joining(board, one, other) == (), joined)

    def test_the_second_comes_behind_the_first_where_it_is_told(self):
        for board in MIXED:
            stands = kit.all_stands(board)
            for one in stands[::11]:
                for other in stands[::5]:
                    pins = joining(board, one, other)
                    if pins is not None:
                        self.assertEqual(together(with_ways(board, pins), one, other)[0], "one")

    def test_no_ways_join_what_lies_along_one_pair_looking_either_way_from_one_pin(self):
        nones = [
            (own, last) for board in MIXED[:3] for own, last, word in kit.all_stands(board)
            if word == "ahead" and joining(board, (own, last, "ahead"), (own, last, "behind")) is None
        ]
        self.assertTrue(nones)


class Refusals(unittest.TestCase):
    def test_no_board(self):
        calls = (
            lambda board: to_all(board, STAND), lambda board: keeping_off(board, STAND, ()), bounds,
            lambda board: making(board, 3), lambda board: joining(board, STAND, STAND),
        )
        for board in kit.wrong_boards():
            for call in calls:
                with self.subTest(board), self.assertRaises(NoBoard):
                    call(board)

    def test_no_stand(self):
        calls = (
            to_all, lambda board, stand: keeping_off(board, stand, ()),
            lambda board, stand: keeping_off(board, stand, None), lambda board, stand: joining(board, stand, STAND),
            lambda board, stand: joining(board, STAND, stand),
        )
        for board in (SMALL, MIXED[5]):
            for stand in kit.wrong_stands(board):
                for call in calls:
                    with self.subTest(stand), self.assertRaises(NoStand):
                        call(board, stand)


if __name__ == "__main__":
    unittest.main()
