"""[1], [3]: the whole, of rounds, of their numbers, and of ways turned about."""

import unittest

import brute
import kit
from kit import BOARDS, PLACES, TIGHT
from waypins.beats import ahead, beat, number_of
from waypins.boards import mirrored, with_ways
from waypins.rounds import round_of, rounds, sums, turning

WORDS = {"ahead": "behind", "behind": "ahead"}
TURNED_ABOUT = {"left": "right", "right": "left", "none": "none"}


def all_ways(places):
    """The board on these places with each of all ways."""
    board = kit.pinned(places, ("left",) * len(places))
    return [kit.ways_turned(board, pins) for pins in kit.subsets(len(places))]


class Whole(unittest.TestCase):
    def test_each_stand_stands_in_just_one_round(self):
        for board in BOARDS:
            told = [stand for stands in rounds(board) for stand in stands]
            self.assertEqual(len(told), 2 * len(board) * (len(board) - 1))
            self.assertEqual(sorted(told), kit.all_stands(board))

    def test_each_line_comes_again_and_no_two_become_one(self):
        for board in BOARDS:
            stands = kit.all_stands(board)
            self.assertEqual(sorted(beat(board, stand) for stand in stands), stands)
            for stand in stands:
                self.assertIn(stand, round_of(board, stand))

    def test_a_round_has_one_number(self):
        for board in BOARDS:
            for stands in rounds(board):
                self.assertEqual(len({number_of(board, stand) for stand in stands}), 1)

    def test_one_more_goes_round_to_the_left_or_the_right_or_as_many(self):
        found = set()
        for places in PLACES + TIGHT:
            for board in all_ways(places):
                ways = brute.ways_of(board)
                lefts, rights = ways.count("left"), ways.count("right")
                told = sums(board)
                self.assertEqual(len(told), len(board))
                for k, (left, right, _) in enumerate(told):
                    if rights <= k < lefts:
                        more = 1
                    elif lefts <= k < rights:
                        more = -1
                    else:
                        more = 0
                    found.add(more)
                    self.assertEqual(left - right, more, (board, k))
        self.assertEqual(found, {1, -1, 0})

    def test_as_many_rounds_as_pins_or_fewer_or_more_by_an_even_number(self):
        found = set()
        for places in PLACES + TIGHT:
            for board in all_ways(places):
                more = len(rounds(board)) - len(board)
                found.add(more)
                self.assertEqual(more % 2, 0)
        self.assertTrue(found > {0, 4, 8})

    def test_with_all_ways_turned_about_each_line_goes_its_way_back(self):
        for board in BOARDS:
            about = with_ways(board, tuple(range(len(board))))
            for stands in rounds(board):
                # Where a line has gone from last to own, it goes back from own to last.
                back = [(last, own, WORDS[word]) for own, last, word in reversed(stands)]
                for one, other in zip(back, back[1:] + back[:1]):
                    self.assertEqual(beat(about, one), other)
                    self.assertEqual(ahead(about, other), one)
                self.assertEqual(sorted(round_of(about, back[0])), sorted(back))
                self.assertEqual(turning(about, back[0]), TURNED_ABOUT[turning(board, stands[0])])
            self.assertEqual(len(rounds(about)), len(rounds(board)))

    def test_in_the_mirror_there_are_the_same_rounds(self):
        for board in BOARDS:
            self.assertEqual(rounds(mirrored(board)), rounds(board))


if __name__ == "__main__":
    unittest.main()
