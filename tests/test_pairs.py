"""[50]: two lines that go beat by beat, both at once."""

import math
import unittest

import brute
import kit
from kit import BOARDS, MIXED, SMALL
from waypins.beats import after
from waypins.errors import NoBoard, NoStand
from waypins.pairs import how_often, meet
from waypins.rounds import round_of


def both(board, one, other):
    """The own pins of both lines behind each number of beats, till both come again at once."""
    onward = brute.steps(board)
    length = math.lcm(len(brute.trail(onward, one)), len(brute.trail(onward, other)))
    return list(zip(brute.owns_from(onward, one, length), brute.owns_from(onward, other, length)))


class Told(unittest.TestCase):
    def test_a_small_board(self):
        # Own pins by turns: 0, 2, 1 in both short rounds, 0, 1, 2 in the long one.
        self.assertEqual(repr(meet(SMALL, (0, 1, "ahead"), (0, 1, "behind"))), "0")
        self.assertEqual(repr(how_often(SMALL, (0, 1, "ahead"), (0, 1, "behind"))), "3")
        self.assertEqual(repr(meet(SMALL, (0, 1, "ahead"), (2, 0, "ahead"))), "None")
        self.assertEqual(repr(how_often(SMALL, (0, 1, "ahead"), (2, 0, "ahead"))), "0")
        self.assertEqual(repr(meet(SMALL, (0, 1, "ahead"), (0, 2, "ahead"))), "0")
        self.assertEqual(repr(how_often(SMALL, (0, 1, "ahead"), (0, 2, "ahead"))), "2")
        self.assertEqual(repr(meet(SMALL, (0, 1, "ahead"), (1, 0, "ahead"))), "1")
        self.assertEqual(repr(meet(SMALL, (0, 1, "ahead"), (2, 1, "ahead"))), "2")
        self.assertEqual(repr(meet(SMALL, (0, 2, "ahead"), (0, 2, "behind"))), "0")
        self.assertEqual(repr(how_often(SMALL, (0, 2, "ahead"), (0, 2, "behind"))), "6")

    def test_pairs_of_all_stands(self):
        kinds = {"never": 0, "at once": 0, "later": 0, "in one round": 0}
        for board in BOARDS:
            stands = kit.all_stands(board)
            for one in stands[::7]:
                for other in stands[::5]:
                    rows = both(board, one, other)
                    times = [many for many, (own, its) in enumerate(rows) if own == its]
                    told = meet(board, one, other)
                    self.assertEqual(repr(told), repr(times[0] if times else None), (board, one, other))
                    self.assertEqual(repr(how_often(board, one, other)), repr(len(times)), (board, one, other))
                    kinds["never" if told is None else "later" if told else "at once"] += 1
                    kinds["in one round"] += other in round_of(board, one)
        self.assertGreater(min(kinds.values()), 100)

    def test_behind_so_many_beats_they_have_one_pin_and_not_sooner(self):
        for board in MIXED:
            stands = kit.all_stands(board)
            for one, other in zip(stands, stands[::-1]):
                many = meet(board, one, other)
                if many is not None:
                    own = [(after(board, one, beats)[0], after(board, other, beats)[0]) for beats in range(many + 1)]
                    self.assertEqual([at for at, (pin, its) in enumerate(own) if pin == its], [many])

    def test_a_meeting_later_than_either_round_is_long(self):
        late = [
            (board, one, other) for board in MIXED for one in kit.all_stands(board)[::3]
            for other in kit.all_stands(board)[::3]
            if (meet(board, one, other) or 0) >= max(len(round_of(board, one)), len(round_of(board, other)))
        ]
        self.assertTrue(late)
        for board, one, other in late:
            rows = both(board, one, other)
            self.assertEqual(meet(board, one, other), [own == its for own, its in rows].index(True))

    def test_alike_stands(self):
        for board in BOARDS:
            for stand in kit.all_stands(board):
                self.assertEqual(repr(meet(board, stand, stand)), "0")
                self.assertEqual(how_often(board, stand, stand), len(round_of(board, stand)))

    def test_whichever_stand_goes_first(self):
        for board in MIXED:
            stands = kit.all_stands(board)
            for one, other in zip(stands[::3], stands[1::2]):
                self.assertEqual(meet(board, one, other), meet(board, other, one))
                self.assertEqual(how_often(board, one, other), how_often(board, other, one))

    def test_never_is_none_and_no_times(self):
        for board in BOARDS:
            stands = kit.all_stands(board)
            for one, other in zip(stands, stands[3:]):
                self.assertEqual(meet(board, one, other) is None, how_often(board, one, other) == 0)


class Refusals(unittest.TestCase):
    def test_no_board(self):
        for board in kit.wrong_boards():
            for call in (meet, how_often):
                with self.subTest(board), self.assertRaises(NoBoard):
                    call(board, (0, 1, "ahead"), (0, 1, "ahead"))

    def test_no_stand(self):
        right = (0, 1, "ahead")
        for board in (SMALL, MIXED[5]):
            for stand in kit.wrong_stands(board):
                for call in (meet, how_often):
                    for one, other in ((stand, right), (right, stand), (stand, stand)):
                        with self.subTest((one, other)), self.assertRaises(NoStand):
                            call(board, one, other)


if __name__ == "__main__":
    unittest.main()
