"""[11], [20], [21]: looks, orders, numbers and heights."""

import unittest

import kit
import oracle
from kit import BOARDS, LOOKS, MIXED, SMALL
from waypins.errors import NoLook, NoNumber
from waypins.numbers import heights, numbers, of_number, order

# Ever so near the direction (40, 3) from pin 0 to pin 1 of the small board, a little to its left and right.
LEFT_OF_IT = (8000000000013, 600000000001)
RIGHT_OF_IT = (8000000000027, 600000000002)


def turned_back(look):
    return (-look[0], -look[1])


class Told(unittest.TestCase):
    def test_a_small_board(self):
        self.assertEqual(repr(order(SMALL, (1000, 1))), "(2, 1, 0)")
        self.assertEqual(repr(numbers(SMALL, (1000, 1))), "(1, 0, 0)")
        self.assertEqual(repr(heights(SMALL, (1000, 1))), "(1, 0, 1, 2)")
        self.assertEqual(repr(order(SMALL, (-1000, -1))), "(0, 1, 2)")
        self.assertEqual(repr(numbers(SMALL, (-1000, -1))), "(1, 2, 2)")
        self.assertEqual(repr(heights(SMALL, (-1000, -1))), "(1, 2, 3, 2)")
        self.assertEqual(repr(order(SMALL, (0, 1))), "(0, 2, 1)")
        self.assertEqual(repr(numbers(SMALL, (0, 1))), "(1, 1, 1)")
        self.assertEqual(repr(heights(SMALL, (0, 1))), "(1, 2, 1, 2)")

    def test_of_number_on_a_small_board(self):
        for number, pins in ((0, "(2, 1)"), (1, "(0,)"), (2, "()"), (3, "()")):
            self.assertEqual(repr(of_number(SMALL, number, (1000, 1))), pins)
        for number, pins in ((0, "()"), (1, "(0,)"), (2, "(1, 2)"), (3, "()")):
            self.assertEqual(repr(of_number(SMALL, number, (-1000, -1))), pins)
        for number, pins in ((0, "()"), (1, "(0, 2, 1)"), (2, "()")):
            self.assertEqual(repr(of_number(SMALL, number, (0, 1))), pins)

    def test_each_on_the_left_of_the_next_one(self):
        for board in BOARDS:
            for look in LOOKS:
                self.assertEqual(repr(order(board, look)), repr(oracle.order(board, look)))

    def test_numbers_pin_by_pin(self):
        for board in BOARDS:
            for look in LOOKS:
                self.assertEqual(repr(numbers(board, look)), repr(oracle.numbers(board, look)))

    def test_heights_from_the_rights_to_the_lefts(self):
        for board in BOARDS:
            ways = [way for _, _, way in board]
            for look in LOOKS:
                row = oracle.order(board, look)
                expected = [ways.count("right")]
                for pin in row:
                    expected.append(expected[-1] + {"left": 1, "right": -1}[ways[pin]])
                told = heights(board, look)
                self.assertEqual(repr(told), repr(tuple(expected)))
                self.assertEqual(told[-1], ways.count("left"))

    def test_a_number_is_the_lesser_of_the_heights_on_both_sides(self):
        for board in BOARDS:
            for look in LOOKS:
                row, high = order(board, look), heights(board, look)
                for at, pin in enumerate(row):
                    self.assertEqual(numbers(board, look)[pin], min(high[at], high[at + 1]))

    def test_pins_of_each_number_in_their_order(self):
        for board in BOARDS:
            for look in LOOKS:
                found = oracle.numbers(board, look)
                for number in range(len(board) + 2):
                    expected = tuple(pin for pin in oracle.order(board, look) if found[pin] == number)
                    self.assertEqual(repr(of_number(board, number, look)), repr(expected))
                    ways = [board[pin][2] for pin in expected]
                    self.assertTrue(all(one != other for one, other in zip(ways, ways[1:])))

    def test_ways_all_alike_give_each_number_once(self):
        for board in BOARDS:
            if len({way for _, _, way in board}) == 1:
                for look in LOOKS:
                    self.assertEqual(sorted(numbers(board, look)), list(range(len(board))))

    def test_numbers_greater_than_there_are_pins(self):
        for number in (3, 4, 100, 10 ** 13 - 1):
            self.assertEqual(repr(of_number(SMALL, number, (1000, 1))), "()")


class Looks(unittest.TestCase):
    def test_near_a_direction_of_two_pins(self):
        self.assertEqual(order(SMALL, LEFT_OF_IT), (2, 0, 1))
        self.assertEqual(order(SMALL, RIGHT_OF_IT), (2, 1, 0))
        self.assertEqual(numbers(SMALL, LEFT_OF_IT), (0, 1, 0))
        self.assertEqual(numbers(SMALL, RIGHT_OF_IT), (1, 0, 0))
        self.assertEqual(heights(SMALL, LEFT_OF_IT), (1, 0, 1, 2))
        self.assertEqual(of_number(SMALL, 0, LEFT_OF_IT), (2, 0))
        self.assertEqual(of_number(SMALL, 0, RIGHT_OF_IT), (2, 1))

    def test_the_other_way(self):
        for board in BOARDS:
            for look in (*LOOKS, LEFT_OF_IT, RIGHT_OF_IT):
                self.assertEqual(order(board, turned_back(look)), order(board, look)[::-1])
        self.assertEqual(order(SMALL, turned_back(LEFT_OF_IT)), (1, 0, 2))
        self.assertEqual(order(SMALL, turned_back(RIGHT_OF_IT)), (0, 1, 2))

    def test_a_nought_in_a_look(self):
        self.assertEqual(order(SMALL, (5, 0)), (2, 1, 0))
        self.assertEqual(order(SMALL, (-5, 0)), (0, 1, 2))
        self.assertEqual(order(SMALL, (0, -5)), (1, 2, 0))

    def test_how_far_a_look_goes_makes_no_odds(self):
        for board in BOARDS:
            for x, y in ((1000, 1), (-7, 1009)):
                self.assertEqual(order(board, (x, y)), order(board, (x * 10 ** 8, y * 10 ** 8)))

    def test_what_is_no_look(self):
        for board in (SMALL, MIXED[2], MIXED[5]):
            for call in (order, numbers, heights, lambda board, look: of_number(board, 1, look)):
                for look in kit.wrong_looks(board):
                    with self.subTest(look), self.assertRaises(NoLook):
                        call(board, look)

    def test_along_one_board_is_not_along_another(self):
        self.assertEqual(order(MIXED[0], (40, 3)), oracle.order(MIXED[0], (40, 3)))
        with self.assertRaises(NoLook):
            order(SMALL, (40, 3))


class Numbers(unittest.TestCase):
    def test_what_is_no_number(self):
        for number in kit.wrong_numbers():
            with self.subTest(number), self.assertRaises(NoNumber):
                of_number(SMALL, number, (1000, 1))

    def test_a_wrong_number_goes_ahead_of_a_wrong_look(self):
        with self.assertRaises(NoNumber):
            of_number(SMALL, -1, (40, 3))
        with self.assertRaises(NoLook):
            of_number(SMALL, 9, (40, 3))


if __name__ == "__main__":
    unittest.main()
