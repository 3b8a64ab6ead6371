"""How much is done for an answer, counted in steps of Python's own, which hang on no clock.

Checks ask thousands of questions, and each one begins with telling whether its board is one.
"""

import sys
import unittest

import kit
from waypins.beats import after, ahead, beat, first, is_stand, meetings, number_of
from waypins.boards import is_board, mirrored
from waypins.changes import count_turned, rounds_kept, rounds_left
from waypins.desk import Desk
from waypins.numbers import heights, numbers, of_number, order
from waypins.pairs import how_often, meet
from waypins.rounds import pins_of, round_of, rounds, rounds_at, sums, together, turning
from waypins.seen import many_stories, next_pins, some_story, sure_ways
from waypins.table import Table
from waypins.texts import board_text, read_board
from waypins.wishes import bounds, joining, keeping_off, making, to_all

# Of the boards that were tried, the one whose answers took longest.
SLOWEST = (
    (28, 35, "left"), (29, 28, "left"), (32, 37, "left"), (12, 11, "right"),
    (32, 30, "left"), (39, 11, "left"), (19, 9, "right"), (5, 34, "left"),
)
LOOK = (1000, 1)
STAND = (0, 1, "ahead")
OTHER = (4, 5, "behind")
# To compare each pair of pairs, 378 of them, takes more than 7,000 steps.
A_BOARD_AT_MOST = 2500


def counted(call, arguments):
    """How many of Python's steps the call takes."""
    count = 0

    def each(frame, event, _):
        nonlocal count
        frame.f_trace_opcodes = True
        count += event == "opcode"
        return each

    before = sys.gettrace()
    sys.settrace(each)
    try:
        call(*arguments)
    finally:
        sys.settrace(before)
    return count


def steps(call, *arguments):
    # Some Pythons leave steps out where they are counted for the first time.
    return max(counted(call, arguments) for _ in range(3))


class Speed(unittest.TestCase):
    def test_what_the_slowest_board_answers(self):
        self.assertIs(is_board(SLOWEST), True)
        self.assertEqual(order(SLOWEST, LOOK), (2, 0, 7, 4, 1, 3, 5, 6))
        self.assertEqual(numbers(SLOWEST, LOOK), (3, 6, 2, 6, 5, 6, 6, 4))
        self.assertEqual(of_number(SLOWEST, 3, LOOK), (0,))
        self.assertEqual(beat(SLOWEST, STAND), (5, 0, "behind"))

    def test_telling_a_board(self):
        for board in (SLOWEST, kit.MIXED[5]):
            self.assertGreater(steps(is_board, board), 100)
            self.assertLess(steps(is_board, board), A_BOARD_AT_MOST)

    def test_each_question_takes_little_more(self):
        calls = (
            (mirrored,), (order, LOOK), (numbers, LOOK), (heights, LOOK), (of_number, 3, LOOK), (is_stand, STAND),
            (number_of, STAND), (beat, STAND), (ahead, STAND), (first, 0, LOOK),
        )
        for board in (SLOWEST, kit.MIXED[5]):
            for call, *arguments in calls:
                with self.subTest(call.__name__):
                    self.assertLess(steps(call, board, *arguments), A_BOARD_AT_MOST + 1500)

    def test_questions_about_more_than_one_beat(self):
        for board in (SLOWEST, kit.MIXED[5]):
            self.assertLess(steps(after, board, STAND, kit.MILLION_MILLION), A_BOARD_AT_MOST + 8000)
            self.assertLess(steps(meetings, board, 0), A_BOARD_AT_MOST + 3000)

    def test_questions_about_rounds(self):
        calls = (
            (round_of, STAND), (rounds,), (turning, STAND), (together, STAND, OTHER), (pins_of, STAND), (rounds_at, 0),
            (sums,), (meet, STAND, OTHER), (how_often, STAND, OTHER), (count_turned, 0), (rounds_kept, 0),
            (rounds_left, 0),
        )
        for board in (SLOWEST, kit.MIXED[5]):
            for call, *arguments in calls:
                with self.subTest(call.__name__):
                    self.assertLess(steps(call, board, *arguments), A_BOARD_AT_MOST + 25000)

    def test_questions_about_ways(self):
        for board in (SLOWEST, kit.MIXED[5]):
            row = tuple(after(board, STAND, many)[0] for many in range(30))
            calls = (
                (to_all, STAND), (keeping_off, STAND, (1,)), (joining, STAND, OTHER), (bounds,), (making, 24),
                (many_stories, row), (sure_ways, row), (some_story, row), (next_pins, row),
            )
            for call, *arguments in calls:
                with self.subTest(call.__name__):
                    self.assertLess(steps(call, board, *arguments), A_BOARD_AT_MOST + 200000)

    def test_deeds_and_texts(self):
        for board in (SLOWEST, kit.MIXED[5]):
            table, desk = Table(board), Desk()
            text = board_text(board)
            calls = (
                (Table, board), (table.lay, 0, LOOK), (table.turn, 0), (table.beats, 1), (table.number,), (table.twin,),
                (table.undo,), (board_text, board), (read_board, text), (desk.say, "board " + text),
                (desk.say, "lay 0 1000 1"), (desk.say, "beats 1"), (desk.say, "where"), (desk.say, "turns"),
            )
            for call, *arguments in calls:
                with self.subTest(call.__name__):
                    self.assertLess(steps(call, *arguments), 2 * A_BOARD_AT_MOST + 25000)

    def test_a_deed_takes_no_more_behind_many(self):
        table = Table(SLOWEST)
        table.lay(0, LOOK)
        table.beats(1)
        soon = steps(table.beats, 1)
        for _ in range(300):
            table.beats(1)
        self.assertLess(steps(table.beats, 1), soon + 2000)

    def test_a_smaller_board_takes_less(self):
        for less, more in zip(kit.MIXED, kit.MIXED[1:]):
            self.assertLess(steps(is_board, less), steps(is_board, more))


if __name__ == "__main__":
    unittest.main()
