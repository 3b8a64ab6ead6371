"""[10], [11]: boards, the boards that come of one, directions and looks."""

import itertools
import random
import unittest

import kit
import oracle
from kit import BOARDS, LEFT, MIXED, RIGHT, SMALL
from waypins.boards import direction, is_board, mirrored, with_ways, without
from waypins.errors import NoBoard, NoPin, NoPins, PinError, TooFew


class IsBoard(unittest.TestCase):
    def test_boards_of_three_to_eight_pins(self):
        for board in BOARDS:
            with self.subTest(board):
                self.assertIs(is_board(board), True)
        self.assertEqual({len(board) for board in BOARDS}, set(range(3, 9)))

    def test_what_is_none(self):
        for thing in kit.wrong_boards():
            with self.subTest(thing):
                self.assertIs(is_board(thing), False)

    def test_two_and_nine_pins(self):
        nine = MIXED[-1] + ((60, 93, LEFT),)
        self.assertTrue(oracle.fits(nine))
        self.assertIs(is_board(nine), False)
        for board in BOARDS:
            self.assertIs(is_board(board[:2]), False)
            self.assertIs(is_board(board[:3]), True)

    def test_places_from_0_to_99(self):
        for x, y in itertools.product((0, 99), repeat=2):
            board = ((x, y, LEFT), (40, 31, RIGHT), (41, 57, LEFT))
            with self.subTest(board):
                self.assertIs(is_board(board), True)
        for x, y in ((-1, 5), (100, 5), (5, -1), (5, 100)):
            self.assertIs(is_board(((x, y, LEFT), (40, 31, RIGHT), (41, 57, LEFT))), False)

    def test_truths_stand_for_no_numbers_though_they_are_equal_to_some(self):
        board = ((0, 1, LEFT), (40, 3, LEFT), (11, 29, RIGHT))
        self.assertIs(is_board(board), True)
        for truths in ((False, 1), (0, True), (False, True)):
            wrong = ((*truths, LEFT),) + board[1:]
            self.assertEqual(wrong, board)
            self.assertIs(is_board(wrong), False)
            self.assertIs(is_board(board), True)

    def test_three_on_one_line_wherever_they_stand_in_the_tuple(self):
        for row in itertools.permutations(((1, 1, LEFT), (4, 3, LEFT), (10, 7, RIGHT), (50, 90, LEFT))):
            self.assertIs(is_board(row), False)

    def test_two_pairs_along_one_direction_wherever_they_stand_in_the_tuple(self):
        for row in itertools.permutations(((0, 0, LEFT), (3, 1, RIGHT), (50, 90, LEFT), (44, 88, RIGHT))):
            self.assertIs(is_board(row), False)

    def test_two_at_one_place_wherever_they_stand_in_the_tuple(self):
        for row in itertools.permutations(((8, 9, LEFT), (8, 9, RIGHT), (50, 90, LEFT), (44, 87, RIGHT))):
            self.assertIs(is_board(row), False)

    def test_near_one_direction_is_not_along_it(self):
        self.assertIs(is_board(((0, 0, LEFT), (98, 97, LEFT), (99, 98, LEFT))), True)
        self.assertIs(is_board(((0, 1, LEFT), (99, 98, LEFT), (1, 0, LEFT), (98, 98, LEFT))), True)

    def test_any_small_tuples_of_pins(self):
        chance = random.Random(10)
        counts = {True: 0, False: 0}
        for _ in range(3000):
            many = chance.randint(3, 5)
            board = tuple((chance.randint(0, 9), chance.randint(0, 9), chance.choice((LEFT, RIGHT))) for _ in range(many))
            expected = oracle.fits(board)
            counts[expected] += 1
            self.assertIs(is_board(board), expected, board)
        self.assertGreater(min(counts.values()), 300)


class WithWays(unittest.TestCase):
    def test_no_pins_some_and_all_turned(self):
        for board in BOARDS:
            for pins in kit.subsets(len(board)):
                told = with_ways(board, pins)
                self.assertEqual(repr(told), repr(kit.ways_turned(board, pins)), (board, pins))
                self.assertIs(is_board(told), True)

    def test_the_words_of_the_document(self):
        self.assertEqual(with_ways(SMALL, ()), SMALL)
        self.assertEqual(with_ways(SMALL, (0, 2)), ((0, 0, RIGHT), (40, 3, LEFT), (11, 29, LEFT)))
        self.assertEqual(with_ways(SMALL, (0, 1, 2)), ((0, 0, RIGHT), (40, 3, RIGHT), (11, 29, LEFT)))

    def test_what_is_no_rising_tuple_of_pins(self):
        for board in (SMALL, MIXED[2], MIXED[5]):
            for pins in kit.wrong_pin_tuples(board):
                with self.subTest(pins), self.assertRaises(NoPins):
                    with_ways(board, pins)

    def test_each_pin_of_a_board_of_eight_but_none_behind(self):
        self.assertEqual(with_ways(MIXED[5], (7,))[7][2], LEFT)
        with self.assertRaises(NoPins):
            with_ways(MIXED[5], (8,))


class Mirrored(unittest.TestCase):
    def test_places_and_ways(self):
        for board in BOARDS:
            told = mirrored(board)
            expected = tuple((99 - x, y, kit.other_way(way)) for x, y, way in board)
            self.assertEqual(repr(told), repr(expected))
            self.assertIs(is_board(told), True)
            self.assertEqual(mirrored(told), board)

    def test_a_small_one(self):
        self.assertEqual(mirrored(SMALL), ((99, 0, RIGHT), (59, 3, RIGHT), (88, 29, LEFT)))


class Without(unittest.TestCase):
    def test_the_others_in_their_order(self):
        for board in BOARDS:
            if len(board) > 3:
                for pin in range(len(board)):
                    expected = tuple(one for at, one in enumerate(board) if at != pin)
                    self.assertEqual(repr(without(board, pin)), repr(expected))

    def test_a_board_of_three_has_none_to_spare(self):
        for board in (SMALL, MIXED[0]):
            for pin in range(3):
                with self.assertRaises(TooFew) as caught:
                    without(board, pin)
                self.assertIs(type(caught.exception), TooFew)
                self.assertEqual(repr((caught.exception.many, caught.exception.least)), "(2, 3)")

    def test_a_board_of_four_has_one(self):
        for pin in range(4):
            self.assertEqual(len(without(MIXED[1], pin)), 3)

    def test_no_pin_goes_ahead_of_too_few(self):
        for board in (SMALL, MIXED[1], MIXED[5]):
            for pin in kit.wrong_pin_numbers(board):
                with self.subTest(pin), self.assertRaises(NoPin):
                    without(board, pin)


class Direction(unittest.TestCase):
    def test_the_differences(self):
        self.assertEqual(repr(direction(SMALL, 0, 1)), "(40, 3)")
        self.assertEqual(repr(direction(SMALL, 1, 0)), "(-40, -3)")
        self.assertEqual(repr(direction(SMALL, 1, 2)), "(-29, 26)")
        for board in BOARDS:
            for one, other in itertools.permutations(range(len(board)), 2):
                (px, py, _), (qx, qy, _) = board[one], board[other]
                self.assertEqual(repr(direction(board, one, other)), repr((qx - px, qy - py)))

    def test_from_edge_to_edge(self):
        board = ((0, 99, LEFT), (99, 0, LEFT), (98, 98, RIGHT))
        self.assertEqual(direction(board, 0, 1), (99, -99))
        self.assertEqual(direction(board, 1, 0), (-99, 99))

    def test_alike_pins(self):
        for board in (SMALL, MIXED[5]):
            for pin in range(len(board)):
                with self.assertRaises(NoPin):
                    direction(board, pin, pin)

    def test_what_is_no_pin(self):
        for board in (SMALL, MIXED[5]):
            for wrong in kit.wrong_pin_numbers(board):
                for one, other in ((wrong, 0), (0, wrong), (wrong, wrong), (2, wrong), (wrong, 2)):
                    with self.subTest((one, other)), self.assertRaises(NoPin):
                        direction(board, one, other)


class Refusals(unittest.TestCase):
    def test_no_board(self):
        calls = (
            lambda board: with_ways(board, ()), mirrored, lambda board: without(board, 0),
            lambda board: direction(board, 0, 1),
        )
        for thing in kit.wrong_boards():
            for call in calls:
                with self.subTest(thing), self.assertRaises(PinError) as caught:
                    call(thing)
                self.assertIs(type(caught.exception), NoBoard)


if __name__ == "__main__":
    unittest.main()
