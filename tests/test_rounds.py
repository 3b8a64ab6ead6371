"""[40], [41], [42]: rounds, what two stands have together, sums."""

import unittest

import brute
import kit
import oracle
from kit import BOARDS, LOOKS, MIXED, SMALL
from waypins.beats import after, beat, number_of
from waypins.boards import mirrored, with_ways
from waypins.errors import NoBoard, NoPin, NoStand
from waypins.rounds import pins_of, round_of, rounds, rounds_at, sums, together, turning

# The rounds of the small board, found on paper, with their numbers and how they turn.
SMALL_ROUNDS = (
    ((0, 1, "ahead"), (2, 0, "behind"), (1, 2, "behind")),
    ((0, 1, "behind"), (2, 0, "ahead"), (1, 2, "ahead")),
    ((0, 2, "ahead"), (1, 0, "ahead"), (2, 1, "ahead"), (0, 2, "behind"), (1, 0, "behind"), (2, 1, "behind")),
)
SMALL_NUMBERS = (0, 2, 1)
SMALL_TURNINGS = ("none", "none", "left")


class RoundOf(unittest.TestCase):
    def test_a_small_board(self):
        for stands in SMALL_ROUNDS:
            for stand in stands:
                self.assertEqual(repr(round_of(SMALL, stand)), repr(stands))

    def test_every_stand(self):
        for board in BOARDS:
            for stand in kit.all_stands(board):
                self.assertEqual(repr(round_of(board, stand)), repr(brute.round_of(board, stand)), (board, stand))

    def test_it_begins_with_the_least_and_goes_beat_by_beat(self):
        for board in MIXED:
            for stand in kit.all_stands(board):
                told = round_of(board, stand)
                self.assertEqual(told[0], min(told))
                self.assertIn(stand, told)
                for one, other in zip(told, told[1:] + told[:1]):
                    self.assertEqual(beat(board, one), other)
                self.assertEqual(len(set(told)), len(told))

    def test_ahead_is_less_than_behind(self):
        found = {stands[0][2] for board in BOARDS for stands in rounds(board) if stands[0][:2] == (0, 1)}
        self.assertEqual(found, {"ahead", "behind"})
        self.assertEqual(round_of(SMALL, (2, 1, "behind"))[0], (0, 2, "ahead"))


class Rounds(unittest.TestCase):
    def test_a_small_board(self):
        self.assertEqual(repr(rounds(SMALL)), repr(SMALL_ROUNDS))

    def test_all_of_them(self):
        for board in BOARDS:
            self.assertEqual(repr(rounds(board)), repr(brute.rounds(board)), board)

    def test_they_rise_and_hold_each_stand_once(self):
        for board in BOARDS:
            told = rounds(board)
            self.assertIs(type(told), tuple)
            self.assertTrue(all(one < other for one, other in zip(told, told[1:])))
            self.assertEqual(sorted(stand for stands in told for stand in stands), kit.all_stands(board))

    def test_each_is_the_round_of_its_stands(self):
        for board in MIXED:
            for stands in rounds(board):
                for stand in stands:
                    self.assertEqual(round_of(board, stand), stands)


class Turning(unittest.TestCase):
    def test_a_small_board(self):
        for stands, told in zip(SMALL_ROUNDS, SMALL_TURNINGS):
            for stand in stands:
                self.assertEqual(repr(turning(SMALL, stand)), repr(told))

    def test_by_the_angles_that_all_beats_turn(self):
        found = set()
        for board in BOARDS:
            for stands in brute.rounds(board):
                told = brute.turning(board, stands)
                found.add(told)
                for stand in stands[::3]:
                    self.assertEqual(turning(board, stand), told, (board, stand))
        self.assertEqual(found, {"left", "right", "none"})

    def test_every_stand_of_a_round(self):
        for board in MIXED:
            for stands in brute.rounds(board):
                self.assertEqual({turning(board, stand) for stand in stands}, {brute.turning(board, stands)})

    def test_whichever_look_is_passed(self):
        counts = {"left": 1, "right": -1, "none": 0}
        for board in BOARDS:
            for stands in brute.rounds(board):
                for look in (*LOOKS[:7], (-1, -1000), (100, -10099)):
                    self.assertEqual(brute.passes(board, stands, look), counts[turning(board, stands[0])])

    def test_a_look_that_is_passed_both_ways(self):
        # A line that turns in all not at all, and yet passes a look to the left, and comes back past it.
        found = 0
        for board in MIXED:
            onward = brute.steps(board)
            for stand in kit.all_stands(board):
                if turning(board, stand) == "none":
                    found += len({board[one[0]][2] for one in brute.trail(onward, stand)}) == 2
        self.assertGreater(found, 100)

    def test_ways_all_alike_turn_all_lines_so(self):
        for board in BOARDS:
            ways = set(brute.ways_of(board))
            if len(ways) == 1:
                self.assertEqual({turning(board, stand) for stand in kit.all_stands(board)}, ways)

    def test_in_the_mirror_they_turn_the_other_way(self):
        other = {"left": "right", "right": "left", "none": "none"}
        for board in MIXED:
            for stands in rounds(board):
                self.assertEqual(turning(mirrored(board), stands[0]), other[turning(board, stands[0])])


class Together(unittest.TestCase):
    def test_a_small_board(self):
        for told, stands in enumerate(SMALL_ROUNDS):
            for at, one in enumerate(stands):
                for far, other in enumerate(stands):
                    many = (far - at) % len(stands)
                    self.assertEqual(repr(together(SMALL, one, other)), repr(("one", many)))
                for against, others in enumerate(SMALL_ROUNDS):
                    if against != told:
                        expected = ("numbers", SMALL_NUMBERS[told], SMALL_NUMBERS[against])
                        self.assertEqual(repr(together(SMALL, one, others[-1])), repr(expected))

    def test_pairs_of_all_stands(self):
        kinds = {"one": 0, "numbers": 0, "rounds": 0}
        for board in BOARDS:
            stands = kit.all_stands(board)
            onward = brute.steps(board)
            for one in stands[::5]:
                row = brute.trail(onward, one)
                for other in stands[::3]:
                    told = together(board, one, other)
                    self.assertEqual(repr(told), repr(self.expected(board, one, other, row)), (board, one, other))
                    kinds[told[0]] += 1
        self.assertGreater(min(kinds.values()), 100)

    def expected(self, board, one, other, row):
        if other in row:
            return ("one", row.index(other))
        numbers = (oracle.number_of(board, one), oracle.number_of(board, other))
        if numbers[0] != numbers[1]:
            return ("numbers", *numbers)
        return ("rounds", min(row), brute.round_of(board, other)[0])

    def test_alike_stands(self):
        for board in MIXED:
            for stand in kit.all_stands(board):
                self.assertEqual(repr(together(board, stand, stand)), "('one', 0)")

    def test_as_many_beats_as_are_told_and_no_fewer(self):
        for board in MIXED:
            for stands in rounds(board):
                for one in stands[::4]:
                    for other in stands[::3]:
                        word, many = together(board, one, other)
                        self.assertEqual(word, "one")
                        self.assertLess(many, len(stands))
                        self.assertEqual(after(board, one, many), other)

    def test_numbers_are_told_ahead_of_rounds(self):
        for board in MIXED:
            for one in rounds(board):
                for other in rounds(board):
                    if one != other:
                        told = together(board, one[-1], other[-1])
                        k, l = number_of(board, one[0]), number_of(board, other[0])
                        self.assertEqual(told, ("rounds", one[0], other[0]) if k == l else ("numbers", k, l))


class PinsOf(unittest.TestCase):
    def test_a_small_board(self):
        for stand in kit.all_stands(SMALL):
            self.assertEqual(repr(pins_of(SMALL, stand)), "(0, 1, 2)")

    def test_every_stand(self):
        found = set()
        for board in BOARDS:
            for stand in kit.all_stands(board):
                expected = tuple(sorted(brute.pins_of(board, stand)))
                self.assertEqual(repr(pins_of(board, stand)), repr(expected))
                found.add(len(board) - len(expected))
        self.assertGreater(len(found), 2)

    def test_pins_that_are_never_own_are_left_out_though_they_are_never_last_either(self):
        for board in MIXED:
            for stands in rounds(board):
                told = pins_of(board, stands[0])
                self.assertEqual(set(told), {last for _, last, _ in stands})


class RoundsAt(unittest.TestCase):
    def test_a_small_board(self):
        for pin in range(3):
            self.assertEqual(repr(rounds_at(SMALL, pin)), repr(SMALL_ROUNDS))

    def test_each_pin(self):
        some_left_out = 0
        for board in BOARDS:
            for pin in range(len(board)):
                told = rounds_at(board, pin)
                expected = tuple(stands for stands in brute.rounds(board) if pin in {own for own, _, _ in stands})
                self.assertEqual(repr(told), repr(expected))
                some_left_out += len(told) < len(brute.rounds(board))
        self.assertGreater(some_left_out, 50)

    def test_they_are_those_whose_pins_hold_it(self):
        for board in MIXED:
            for pin in range(len(board)):
                expected = [stands for stands in rounds(board) if pin in pins_of(board, stands[0])]
                self.assertEqual(list(rounds_at(board, pin)), expected)


class Sums(unittest.TestCase):
    def test_a_small_board(self):
        self.assertEqual(repr(sums(SMALL)), "((0, 0, 1), (1, 0, 0), (0, 0, 1))")

    def test_each_number_from_0_on(self):
        for board in BOARDS:
            expected = []
            for number in range(len(board)):
                those = [stands for stands in brute.rounds(board) if oracle.number_of(board, stands[0]) == number]
                words = [brute.turning(board, stands) for stands in those]
                expected.append((words.count("left"), words.count("right"), words.count("none")))
            self.assertEqual(repr(sums(board)), repr(tuple(expected)), board)

    def test_a_number_may_have_rounds_of_several_kinds_and_more_than_one_of_a_kind(self):
        rows = [row for board in BOARDS for row in sums(board)]
        self.assertTrue(any(max(row) > 1 for row in rows))
        self.assertTrue(any(sum(count > 0 for count in row) > 1 for row in rows))
        board = ((29, 13, "left"), (81, 44, "right"), (76, 17, "left"), (94, 99, "left"), (68, 42, "right"))
        words = [brute.turning(board, stands) for stands in brute.rounds(board) if number_of(board, stands[0]) == 2]
        self.assertEqual(sums(board), ((0, 0, 0), (0, 0, 3), (2, 1, 0), (0, 0, 3), (0, 0, 0)))
        self.assertEqual(sorted(words), ["left", "left", "right"])

    def test_ways_all_alike(self):
        for places in kit.PLACES:
            many = len(places)
            self.assertEqual(sums(kit.pinned(places, ("left",) * 8)), ((1, 0, 0),) * many)
            self.assertEqual(sums(kit.pinned(places, ("right",) * 8)), ((0, 1, 0),) * many)


class Refusals(unittest.TestCase):
    def test_no_board(self):
        calls = (
            lambda board: round_of(board, (0, 1, "ahead")), rounds, lambda board: turning(board, (0, 1, "ahead")),
            lambda board: together(board, (0, 1, "ahead"), (0, 1, "ahead")),
            lambda board: pins_of(board, (0, 1, "ahead")), lambda board: rounds_at(board, 0), sums,
        )
        for board in kit.wrong_boards():
            for call in calls:
                with self.subTest(board), self.assertRaises(NoBoard):
                    call(board)

    def test_no_stand(self):
        calls = (
            round_of, turning, pins_of, lambda board, stand: together(board, stand, (0, 1, "ahead")),
            lambda board, stand: together(board, (0, 1, "ahead"), stand),
            lambda board, stand: together(board, stand, stand),
        )
        for board in (SMALL, MIXED[5]):
            for stand in kit.wrong_stands(board):
                for call in calls:
                    with self.subTest(stand), self.assertRaises(NoStand):
                        call(board, stand)

    def test_no_pin(self):
        for board in (SMALL, MIXED[5]):
            for pin in kit.wrong_pin_numbers(board):
                with self.subTest(pin), self.assertRaises(NoPin):
                    rounds_at(board, pin)

    def test_a_stand_of_another_board(self):
        with self.assertRaises(NoStand):
            round_of(SMALL, (3, 0, "ahead"))
        self.assertIn((3, 0, "ahead"), round_of(MIXED[1], (3, 0, "ahead")))

    def test_stands_on_a_board_with_ways_turned(self):
        for pins in kit.subsets(4):
            board = with_ways(MIXED[1], pins)
            self.assertEqual(rounds(board), brute.rounds(board))


if __name__ == "__main__":
    unittest.main()
