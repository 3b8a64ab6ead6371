"""[30], [31], [32]: stands, beats and meetings."""

import unittest

import kit
import oracle
from kit import BOARDS, LOOKS, MILLION_MILLION, MIXED, SMALL
from waypins.beats import after, ahead, beat, first, is_stand, meetings, number_of
from waypins.boards import mirrored, with_ways
from waypins.errors import NoBoard, NoLook, NoNumber, NoPin, NoStand
from waypins.numbers import numbers

# All stands of the small board: the number of each, and the stand one beat behind it, found on paper.
SMALL_STANDS = {
    (0, 1, "ahead"): (0, (2, 0, "behind")),
    (0, 1, "behind"): (2, (2, 0, "ahead")),
    (0, 2, "ahead"): (1, (1, 0, "ahead")),
    (0, 2, "behind"): (1, (1, 0, "behind")),
    (1, 0, "ahead"): (1, (2, 1, "ahead")),
    (1, 0, "behind"): (1, (2, 1, "behind")),
    (1, 2, "ahead"): (2, (0, 1, "behind")),
    (1, 2, "behind"): (0, (0, 1, "ahead")),
    (2, 0, "ahead"): (2, (1, 2, "ahead")),
    (2, 0, "behind"): (0, (1, 2, "behind")),
    (2, 1, "ahead"): (1, (0, 2, "behind")),
    (2, 1, "behind"): (1, (0, 2, "ahead")),
}


def trail(board, stand, many):
    """The stands from this one on, by the oracle's beats."""
    found = [stand]
    for _ in range(many):
        found.append(oracle.beat(board, found[-1]))
    return found


class IsStand(unittest.TestCase):
    def test_every_stand_of_a_board(self):
        for board in BOARDS:
            stands = kit.all_stands(board)
            self.assertEqual(len(stands), 2 * len(board) * (len(board) - 1))
            for stand in stands:
                self.assertIs(is_stand(board, stand), True)

    def test_what_is_none(self):
        for board in (SMALL, MIXED[2], MIXED[5]):
            for thing in kit.wrong_stands(board):
                with self.subTest(thing):
                    self.assertIs(is_stand(board, thing), False)

    def test_truths_stand_for_no_pins_though_they_are_equal_to_some(self):
        self.assertIs(is_stand(SMALL, (0, 1, "ahead")), True)
        for thing in ((False, 1, "ahead"), (0, True, "ahead"), (False, True, "ahead")):
            self.assertEqual(thing, (0, 1, "ahead"))
            self.assertIs(is_stand(SMALL, thing), False)
            self.assertIs(is_stand(SMALL, (0, 1, "ahead")), True)

    def test_a_stand_of_another_board(self):
        self.assertIs(is_stand(MIXED[1], (3, 0, "ahead")), True)
        self.assertIs(is_stand(SMALL, (3, 0, "ahead")), False)

    def test_no_board_even_where_no_stand_is_asked_of(self):
        for board in kit.wrong_boards():
            for thing in ((0, 1, "ahead"), None):
                with self.assertRaises(NoBoard):
                    is_stand(board, thing)


class NumberOf(unittest.TestCase):
    def test_a_small_board(self):
        for stand, (number, _) in SMALL_STANDS.items():
            self.assertEqual(repr(number_of(SMALL, stand)), repr(number))

    def test_all_stands(self):
        for board in BOARDS:
            for stand in kit.all_stands(board):
                self.assertEqual(repr(number_of(board, stand)), repr(oracle.number_of(board, stand)), (board, stand))

    def test_it_stays_whatever_is_met(self):
        for board in BOARDS:
            for stand in kit.all_stands(board):
                self.assertEqual(number_of(board, beat(board, stand)), number_of(board, stand))

    def test_a_line_laid_has_it_when_it_has_met_a_pin(self):
        for board in BOARDS:
            for look in LOOKS:
                for pin, number in enumerate(numbers(board, look)):
                    self.assertEqual(number_of(board, first(board, pin, look)), number)


class Beat(unittest.TestCase):
    def test_a_small_board(self):
        for stand, (_, behind) in SMALL_STANDS.items():
            self.assertEqual(repr(beat(SMALL, stand)), repr(behind))
            self.assertEqual(repr(ahead(SMALL, behind)), repr(stand))

    def test_all_stands(self):
        for board in BOARDS:
            for stand in kit.all_stands(board):
                self.assertEqual(repr(beat(board, stand)), repr(oracle.beat(board, stand)), (board, stand))

    def test_what_is_ahead_of_all_stands(self):
        for board in BOARDS:
            stands = kit.all_stands(board)
            before = {oracle.beat(board, stand): stand for stand in stands}
            self.assertEqual(len(before), len(stands))
            for stand in stands:
                self.assertEqual(repr(ahead(board, stand)), repr(before[stand]), (board, stand))

    def test_there_and_back(self):
        for board in BOARDS:
            for stand in kit.all_stands(board):
                self.assertEqual(ahead(board, beat(board, stand)), stand)
                self.assertEqual(beat(board, ahead(board, stand)), stand)

    def test_with_all_ways_turned_it_goes_its_way_back(self):
        words = {"ahead": "behind", "behind": "ahead"}
        for board in BOARDS:
            back = with_ways(board, tuple(range(len(board))))
            for stand in kit.all_stands(board):
                own, last, word = beat(board, stand)
                self.assertEqual(beat(back, (last, own, words[word])), (stand[1], stand[0], words[stand[2]]))

    def test_in_the_mirror_it_goes_alike(self):
        for board in BOARDS:
            for stand in kit.all_stands(board):
                self.assertEqual(beat(mirrored(board), stand), beat(board, stand))


class After(unittest.TestCase):
    def test_no_beats_one_and_many(self):
        for board in BOARDS[:1] + MIXED:
            for stand in kit.all_stands(board):
                stands = trail(board, stand, 30)
                for many in (0, 1, 2, 3, 5, 13, 30):
                    self.assertEqual(repr(after(board, stand, many)), repr(stands[many]))

    def test_more_than_a_round(self):
        for board in (SMALL, MIXED[5]):
            for stand in kit.all_stands(board)[::5]:
                stands = trail(board, stand, 1000)
                for many in (100, 113, 500, 999, 1000):
                    self.assertEqual(after(board, stand, many), stands[many])

    def test_a_million_million(self):
        for board in BOARDS:
            for stand in kit.all_stands(board)[::7]:
                stands = trail(board, stand, 112)
                length = stands.index(stand, 1)
                for many in (MILLION_MILLION, MILLION_MILLION - 1, 999999000001):
                    self.assertEqual(repr(after(board, stand, many)), repr(stands[many % length]))

    def test_a_million_million_on_a_small_board(self):
        # The round of six stands: 10 ** 12 leaves 4.
        self.assertEqual(after(SMALL, (0, 1, "ahead"), MILLION_MILLION), after(SMALL, (0, 1, "ahead"), 4))
        self.assertEqual(after(SMALL, (0, 1, "ahead"), 3), (0, 1, "ahead"))
        self.assertEqual(after(SMALL, (1, 0, "behind"), 3), (1, 0, "ahead"))
        self.assertEqual(after(SMALL, (1, 0, "behind"), 6), (1, 0, "behind"))
        self.assertEqual(after(SMALL, (1, 0, "behind"), MILLION_MILLION), (2, 1, "ahead"))

    def test_what_is_no_number_of_beats(self):
        for many in kit.wrong_beats():
            with self.subTest(many), self.assertRaises(NoNumber):
                after(SMALL, (0, 1, "ahead"), many)


class First(unittest.TestCase):
    def test_a_small_board(self):
        self.assertEqual(repr(first(SMALL, 0, (1000, 1))), "(1, 0, 'behind')")
        self.assertEqual(repr(first(SMALL, 1, (1000, 1))), "(0, 1, 'ahead')")
        self.assertEqual(repr(first(SMALL, 2, (1000, 1))), "(1, 2, 'behind')")
        self.assertEqual(repr(first(SMALL, 0, (-1000, -1))), "(1, 0, 'ahead')")
        self.assertEqual(repr(first(SMALL, 0, (0, 1))), "(1, 0, 'ahead')")
        self.assertEqual(repr(first(SMALL, 2, (0, 1))), "(0, 2, 'ahead')")

    def test_all_pins(self):
        for board in BOARDS:
            for look in LOOKS:
                for pin in range(len(board)):
                    if board[:2] == SMALL[:2] and look == LOOKS[-1]:
                        continue  # too near a direction for the oracle's angles
                    self.assertEqual(repr(first(board, pin, look)), repr(oracle.first(board, pin, look)))

    def test_near_a_direction_of_two_pins(self):
        # The direction (40, 3) from pin 0 to pin 1, a little to its left and to its right.
        past, short = (8000000000013, 600000000001), (8000000000027, 600000000002)
        self.assertEqual(first(SMALL, 0, past), (2, 0, "behind"))
        self.assertEqual(first(SMALL, 0, short), (1, 0, "behind"))
        self.assertEqual(first(SMALL, 0, (-past[0], -past[1])), (2, 0, "ahead"))
        self.assertEqual(first(SMALL, 0, (-short[0], -short[1])), (1, 0, "ahead"))
        right = with_ways(SMALL, (0,))
        self.assertEqual(first(right, 0, past), (1, 0, "behind"))
        self.assertEqual(first(right, 0, short), (2, 0, "ahead"))

    def test_what_is_no_pin_and_no_look(self):
        for board in (SMALL, MIXED[5]):
            for pin in kit.wrong_pin_numbers(board):
                for look in ((1000, 1), (0, 0)):
                    with self.subTest(pin), self.assertRaises(NoPin):
                        first(board, pin, look)
            for look in kit.wrong_looks(board):
                with self.subTest(look), self.assertRaises(NoLook):
                    first(board, 0, look)


class Meetings(unittest.TestCase):
    def test_a_small_board(self):
        expected = (
            ((1, "ahead"), (2, "ahead"), (1, "behind"), (2, "behind")),
            ((0, "behind"), (2, "ahead"), (0, "ahead"), (2, "behind")),
            ((0, "behind"), (1, "behind"), (0, "ahead"), (1, "ahead")),
        )
        for pin in range(3):
            self.assertEqual(repr(meetings(SMALL, pin)), repr(expected[pin]))

    def test_each_pin(self):
        for board in BOARDS:
            for pin in range(len(board)):
                self.assertEqual(repr(meetings(board, pin)), repr(oracle.meetings(board, pin)), (board, pin))

    def test_each_other_one_twice(self):
        for board in BOARDS:
            for pin in range(len(board)):
                expected = [(other, word) for other in range(len(board)) for word in ("ahead", "behind") if other != pin]
                self.assertEqual(sorted(meetings(board, pin)), expected)

    def test_whatever_the_ways(self):
        for board in MIXED:
            for pins in kit.subsets(len(board))[::3]:
                turned = with_ways(board, pins)
                for pin in range(len(board)):
                    self.assertEqual(meetings(turned, pin), meetings(board, pin))

    def test_pins_at_one_height(self):
        # A line along (1000, 1) leaves what stands at its own height to the right where that lies ahead.
        board = ((0, 5, "left"), (99, 5, "right"), (50, 90, "left"))
        self.assertEqual(meetings(board, 0), ((2, "ahead"), (1, "behind"), (2, "behind"), (1, "ahead")))
        self.assertEqual(meetings(board, 1), ((2, "ahead"), (0, "ahead"), (2, "behind"), (0, "behind")))

    def test_what_is_no_pin(self):
        for board in (SMALL, MIXED[5]):
            for pin in kit.wrong_pin_numbers(board):
                with self.subTest(pin), self.assertRaises(NoPin):
                    meetings(board, pin)


class NoStands(unittest.TestCase):
    def test_what_is_no_stand(self):
        calls = (number_of, beat, ahead, lambda board, stand: after(board, stand, 0))
        for board in (SMALL, MIXED[5]):
            for call in calls:
                for stand in kit.wrong_stands(board):
                    with self.subTest(stand), self.assertRaises(NoStand):
                        call(board, stand)


if __name__ == "__main__":
    unittest.main()
