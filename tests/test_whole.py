"""[1], [3]: the whole, of rounds, of their numbers, of ways turned and pins taken, of tables and desks."""

import unittest

import brute
import kit
from kit import BOARDS, PLACES, TIGHT
from waypins.beats import ahead, beat, number_of
from waypins.boards import mirrored, with_ways, without
from waypins.changes import count_turned, rounds_kept, rounds_left
from waypins.desk import Desk
from waypins.numbers import numbers
from waypins.rounds import pins_of, round_of, rounds, rounds_at, sums, turning
from waypins.table import Table
from waypins.texts import board_text, read_board
from waypins.wishes import bounds

WORDS = {"ahead": "behind", "behind": "ahead"}
TURNED_ABOUT = {"left": "right", "right": "left", "none": "none"}


def all_ways(places):
    """The board on these places with each of all ways."""
    board = kit.pinned(places, ("left",) * len(places))
    return [kit.ways_turned(board, pins) for pins in kit.subsets(len(places))]


class Whole(unittest.TestCase):
    def test_each_stand_stands_in_just_one_round(self):
        for board in BOARDS:
            told = [stand for stands in rounds(board) for stand in stands]
            self.assertEqual(len(told), 2 * len(board) * (len(board) - 1))
            self.assertEqual(sorted(told), kit.all_stands(board))

    def test_each_line_comes_again_and_no_two_become_one(self):
        for board in BOARDS:
            stands = kit.all_stands(board)
            self.assertEqual(sorted(beat(board, stand) for stand in stands), stands)
            for stand in stands:
                self.assertIn(stand, round_of(board, stand))

    def test_a_round_has_one_number(self):
        for board in BOARDS:
            for stands in rounds(board):
                self.assertEqual(len({number_of(board, stand) for stand in stands}), 1)

    def test_one_more_goes_round_to_the_left_or_the_right_or_as_many(self):
        found = set()
        for places in PLACES + TIGHT:
            for board in all_ways(places):
                ways = brute.ways_of(board)
                lefts, rights = ways.count("left"), ways.count("right")
                told = sums(board)
                self.assertEqual(len(told), len(board))
                for k, (left, right, _) in enumerate(told):
                    if rights <= k < lefts:
                        more = 1
                    elif lefts <= k < rights:
                        more = -1
                    else:
                        more = 0
                    found.add(more)
                    self.assertEqual(left - right, more, (board, k))
        self.assertEqual(found, {1, -1, 0})

    def test_as_many_rounds_as_pins_or_fewer_or_more_by_an_even_number(self):
        found = set()
        for places in PLACES + TIGHT:
            for board in all_ways(places):
                more = len(rounds(board)) - len(board)
                found.add(more)
                self.assertEqual(more % 2, 0)
        self.assertTrue(found > {0, 4, 8})

    def test_with_all_ways_turned_about_each_line_goes_its_way_back(self):
        for board in BOARDS:
            about = with_ways(board, tuple(range(len(board))))
            for stands in rounds(board):
                # Where a line has gone from last to own, it goes back from own to last.
                back = [(last, own, WORDS[word]) for own, last, word in reversed(stands)]
                for one, other in zip(back, back[1:] + back[:1]):
                    self.assertEqual(beat(about, one), other)
                    self.assertEqual(ahead(about, other), one)
                self.assertEqual(sorted(round_of(about, back[0])), sorted(back))
                self.assertEqual(turning(about, back[0]), TURNED_ABOUT[turning(board, stands[0])])
            self.assertEqual(len(rounds(about)), len(rounds(board)))

    def test_a_way_turned_makes_as_many_or_fewer_or_more_by_an_even_number(self):
        for board in BOARDS:
            fewest, most = bounds(board)
            for pin in range(len(board)):
                before, behind = count_turned(board, pin)
                self.assertEqual((before - len(board)) % 2, 0)
                self.assertEqual((behind - len(board)) % 2, 0)
                self.assertTrue(fewest <= min(before, behind) and max(before, behind) <= most)

    def test_rounds_kept_with_a_way_turned_are_those_that_never_come_to_the_pin(self):
        for board in BOARDS:
            for pin in range(len(board)):
                turned = with_ways(board, (pin,))
                told = rounds_kept(board, pin)
                self.assertEqual(set(told), set(rounds(board)) - set(rounds_at(board, pin)))
                for stands in told:
                    self.assertNotIn(pin, pins_of(board, stands[0]))
                    self.assertEqual(round_of(turned, stands[0]), stands)
                    self.assertEqual(turning(turned, stands[0]), turning(board, stands[0]))

    def test_a_round_left_without_a_pin_has_one_number_as_much_or_one_more_than_there(self):
        found = set()
        for board in BOARDS:
            if len(board) > 3:
                for pin in range(len(board)):
                    less = without(board, pin)
                    for stands in rounds_left(board, pin):
                        there = [(own - (own > pin), last - (last > pin), word) for own, last, word in stands]
                        self.assertEqual(round_of(less, there[0]), tuple(there))
                        self.assertEqual(turning(less, there[0]), turning(board, stands[0]))
                        more = {number_of(board, one) - number_of(less, its) for one, its in zip(stands, there)}
                        self.assertEqual(len(more), 1)
                        found |= more
        self.assertEqual(found, {0, 1})

    def test_a_line_laid_at_a_table_keeps_the_number_that_its_look_tells(self):
        for board in BOARDS:
            for look in kit.LOOKS:
                told = numbers(board, look)
                for pin, number in enumerate(told):
                    table = Table(board)
                    table.lay(pin, look)
                    for many in (0, 1, 4, kit.MILLION_MILLION):
                        table.beats(many)
                        self.assertEqual(table.number(), number)
                    self.assertEqual(number_of(table.board(), table.where()[1]), number)

    def test_a_desk_answers_as_its_table_does(self):
        for board in BOARDS:
            desk, table = Desk(), Table(board)
            desk.say("board " + board_text(board))
            for pin in range(len(board)):
                for line in (f"lay {pin} 1000 1", f"turn {pin}", "beats 1", "beats 999"):
                    self.assertEqual(desk.say(line), "ok")
                table.lay(pin, (1000, 1))
                table.turn(pin)
                table.beats(1)
                table.beats(999)
                stand = table.where()[1]
                self.assertEqual(read_board(desk.say("show")), table.board())
                self.assertEqual(desk.say("where"), "{} {} {}".format(*stand))
                self.assertEqual(desk.say("number"), str(table.number()))
                self.assertEqual(desk.say("rounds"), str(len(rounds(table.board()))))
                self.assertEqual(desk.say("turns"), turning(table.board(), stand))
                self.assertEqual(desk.say("pins"), " ".join(map(str, pins_of(table.board(), stand))))

    def test_a_line_at_a_table_comes_again(self):
        for board in BOARDS:
            table = Table(board)
            table.lay(0, (1000, 1))
            table.beats(1)
            twin = table.twin()
            twin.beats(len(round_of(board, table.where()[1])))
            self.assertTrue(twin == table)
            self.assertEqual(len(twin), 3)

    def test_in_the_mirror_there_are_the_same_rounds(self):
        for board in BOARDS:
            self.assertEqual(rounds(mirrored(board)), rounds(board))


if __name__ == "__main__":
    unittest.main()
