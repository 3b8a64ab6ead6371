"""[80], [81]: rounds where a pin's way is turned, and where a pin is taken."""

import unittest

import brute
import kit
import oracle
from kit import BOARDS, MIXED, SMALL
from waypins.beats import number_of
from waypins.boards import with_ways, without
from waypins.changes import count_turned, rounds_kept, rounds_left
from waypins.errors import NoBoard, NoPin, PinError, TooFew
from waypins.rounds import rounds, rounds_at

GREATER = tuple(board for board in BOARDS if len(board) > 3)


def each_pin(boards):
    return [(board, pin) for board in boards for pin in range(len(board))]


def told_by_whole(stands, pin):
    """A round of the board without the pin, told by the numbers of the whole board."""
    return tuple((own + (own >= pin), last + (last >= pin), word) for own, last, word in stands)


def told_by_less(stands, pin):
    """A round that never has the pin, told by the numbers of the board without it."""
    return tuple((own - (own > pin), last - (last > pin), word) for own, last, word in stands)


def kept(board, pin):
    turned = set(brute.rounds(kit.ways_turned(board, (pin,))))
    return tuple(stands for stands in brute.rounds(board) if stands in turned)


def left(board, pin):
    less = {told_by_whole(stands, pin) for stands in brute.rounds(board[:pin] + board[pin + 1:])}
    return tuple(sorted(less & set(brute.rounds(board))))


class CountTurned(unittest.TestCase):
    def test_a_small_board(self):
        for pin in range(3):
            self.assertEqual(repr(count_turned(SMALL, pin)), "(3, 3)")

    def test_each_pin(self):
        found = set()
        for board, pin in each_pin(BOARDS):
            turned = kit.ways_turned(board, (pin,))
            expected = (len(brute.rounds(board)), len(brute.rounds(turned)))
            self.assertEqual(repr(count_turned(board, pin)), repr(expected), (board, pin))
            found.add(expected[1] - expected[0])
        self.assertTrue({-4, 0, 4} <= found, found)

    def test_turned_back_it_is_the_other_way_about(self):
        for board, pin in each_pin(MIXED):
            before, behind = count_turned(board, pin)
            self.assertEqual((before, behind), (len(rounds(board)), len(rounds(with_ways(board, (pin,))))))
            self.assertEqual(count_turned(with_ways(board, (pin,)), pin), (behind, before))


class RoundsKept(unittest.TestCase):
    def test_a_small_board_has_none(self):
        for pin in range(3):
            self.assertEqual(repr(rounds_kept(SMALL, pin)), "()")

    def test_each_pin(self):
        counts = set()
        for board, pin in each_pin(BOARDS):
            told = rounds_kept(board, pin)
            self.assertEqual(repr(told), repr(kept(board, pin)), (board, pin))
            counts.add(len(told))
        self.assertGreater(len(counts), 3)
        self.assertIn(0, counts)

    def test_they_rise_and_are_the_same_on_both_boards(self):
        for board, pin in each_pin(BOARDS):
            told = rounds_kept(board, pin)
            self.assertTrue(all(one < other for one, other in zip(told, told[1:])))
            self.assertEqual(told, rounds_kept(with_ways(board, (pin,)), pin))
            self.assertEqual(set(told), set(rounds(board)) & set(rounds(with_ways(board, (pin,)))))

    def test_with_those_at_the_pin_they_are_all_rounds(self):
        for board, pin in each_pin(BOARDS):
            self.assertEqual(tuple(sorted(rounds_kept(board, pin) + rounds_at(board, pin))), rounds(board))


class RoundsLeft(unittest.TestCase):
    def test_each_pin(self):
        counts = set()
        for board, pin in each_pin(GREATER):
            told = rounds_left(board, pin)
            self.assertEqual(repr(told), repr(left(board, pin)), (board, pin))
            counts.add(len(told))
        self.assertGreater(len(counts), 3)
        self.assertIn(0, counts)

    def test_a_board_of_four(self):
        four = [board for board in GREATER if len(board) == 4]
        some = {bool(rounds_left(board, pin)) for board, pin in each_pin(four)}
        self.assertEqual(some, {True, False})

    def test_they_rise_and_are_told_by_the_numbers_of_the_whole_board(self):
        renumbered = 0
        for board, pin in each_pin(GREATER):
            told = rounds_left(board, pin)
            self.assertTrue(all(one < other for one, other in zip(told, told[1:])))
            self.assertLessEqual(set(told), set(rounds(board)))
            less = [told_by_less(stands, pin) for stands in told]
            self.assertLessEqual(set(less), set(rounds(without(board, pin))))
            renumbered += sum(stands != now for stands, now in zip(told, less))
        self.assertGreater(renumbered, 50)

    def test_such_a_round_never_meets_the_pin_and_has_one_number_as_much_or_one_more(self):
        found = set()
        for board, pin in each_pin(GREATER):
            less = without(board, pin)
            for stands in rounds_left(board, pin):
                self.assertNotIn(pin, {part for own, last, _ in stands for part in (own, last)})
                numbers = {number_of(board, stand) for stand in stands}
                numbers_less = {number_of(less, stand) for stand in told_by_less(stands, pin)}
                self.assertEqual((len(numbers), len(numbers_less)), (1, 1))
                self.assertEqual(numbers, {oracle.number_of(board, stands[0])})
                found.add(min(numbers) - min(numbers_less))
        self.assertEqual(found, {0, 1})

    def test_what_is_left_without_a_pin_is_kept_with_its_way_turned(self):
        for board, pin in each_pin(GREATER):
            self.assertEqual(rounds_left(board, pin), rounds_kept(board, pin))


class Refusals(unittest.TestCase):
    def test_no_board(self):
        for board in kit.wrong_boards():
            for call in (count_turned, rounds_kept, rounds_left):
                for pin in (0, -1, None):
                    with self.subTest((board, pin)), self.assertRaises(NoBoard):
                        call(board, pin)

    def test_no_pin(self):
        for board in (MIXED[1], MIXED[5]):
            for pin in kit.wrong_pin_numbers(board):
                for call in (count_turned, rounds_kept, rounds_left):
                    with self.subTest(pin), self.assertRaises(NoPin):
                        call(board, pin)

    def test_no_pin_goes_ahead_of_too_few(self):
        for pin in kit.wrong_pin_numbers(SMALL):
            with self.subTest(pin), self.assertRaises(NoPin):
                rounds_left(SMALL, pin)

    def test_three_pins_are_too_few(self):
        for board, pin in each_pin([board for board in BOARDS if len(board) == 3]):
            with self.assertRaises(PinError) as caught:
                rounds_left(board, pin)
            self.assertIs(type(caught.exception), TooFew)
            self.assertEqual(repr((caught.exception.many, caught.exception.least)), "(2, 3)")

    def test_three_pins_are_enough_where_none_is_taken(self):
        for board, pin in each_pin([board for board in BOARDS if len(board) == 3]):
            self.assertEqual(count_turned(board, pin)[0], len(rounds(board)))
            self.assertEqual(rounds_kept(board, pin), kept(board, pin))


if __name__ == "__main__":
    unittest.main()
