"""[70], [71]: ways not known, rows of pins and their stories."""

import itertools
import unittest

import brute
import kit
from kit import BOARDS, LEFT, MIXED, RIGHT, SMALL
from waypins.boards import mirrored, with_ways
from waypins.errors import NoBoard, NoRow
from waypins.seen import is_story, many_stories, next_pins, some_story, sure_ways

THREE, FOUR, FIVE = MIXED[:3]
# Stands of every board.
SEEN_FROM = ((0, 1, "ahead"), (1, 0, "behind"), (2, 0, "ahead"), (1, 2, "behind"))


def seen(board, stand, many):
    """The row of so many pins that a line was seen to have from this stand on."""
    return brute.owns_from(brute.steps(board), stand, many)


def some_rows():
    """(board, row): rows that lines have, rows that they have with one pin otherwise, and any rows of few pins."""
    for board in (SMALL, THREE, FOUR, FIVE):
        for length in (1, 2, 3):
            for row in itertools.product(range(len(board)), repeat=length):
                yield board, row
        for stand in SEEN_FROM:
            for length in (4, 7, 12, 29, 30):
                row = seen(board, stand, length)
                yield board, row
                for pin in range(len(board)):
                    yield board, row[:length // 2] + (pin,) + row[length // 2 + 1:]
    for board in MIXED[3:]:
        for stand in SEEN_FROM[:2]:
            for length in (1, 3, 6, 30):
                row = seen(board, stand, length)
                yield board, row
                yield board, row[:-1] + ((row[-1] + 1) % len(board),)


class ByTryingAll(unittest.TestCase):
    def test_rows(self):
        counts = set()
        for board, row in some_rows():
            found = brute.stories(board, row)
            counts.add(len(found))
            with self.subTest((board, row)):
                self.assertEqual(repr(many_stories(board, row)), repr(len(found)))
                self.assertEqual(repr(sure_ways(board, row)), repr(self.sure(board, found)))
                self.assertEqual(repr(next_pins(board, row)), repr(self.behind(board, row, found)))
                told = some_story(board, row)
                if found:
                    self.assertIn(told, found)
                    self.assertIn(repr(told), [repr(one) for one in found])
                    self.assertIs(is_story(board, row, told), True)
                else:
                    self.assertIsNone(told)
        # What lies ahead tells nothing of the row, so there are always as many of the one as of the other.
        self.assertTrue(counts >= {0, 2, 4}, counts)
        self.assertFalse([count for count in counts if count % 2])

    def sure(self, board, found):
        if not found:
            return None
        told = []
        for pin in range(len(board)):
            ways = {ways[pin] for ways, _ in found}
            told.append(ways.pop() if len(ways) == 1 else None)
        return tuple(told)

    def behind(self, board, row, found):
        places = brute.places_of(board)
        rows = [brute.owns_from(brute.steps(kit.pinned(places, ways)), stand, len(row) + 1) for ways, stand in found]
        return tuple(sorted({one[-1] for one in rows}))

    def test_every_story_and_nothing_else_is_one(self):
        counts = {True: 0, False: 0}
        for board in (SMALL, THREE, FOUR):
            every = list(itertools.product(
                itertools.product((LEFT, RIGHT), repeat=len(board)), kit.all_stands(board),
            ))
            for stand in SEEN_FROM:
                for length in (1, 2, 5, 30):
                    row = seen(board, stand, length)
                    found = brute.stories(board, row)
                    for thing in every:
                        self.assertIs(is_story(board, row, thing), thing in found, (board, row, thing))
                        counts[thing in found] += 1
        self.assertGreater(min(counts.values()), 100)


class Told(unittest.TestCase):
    def test_a_small_board(self):
        # From pin 0 a line comes to pin 2, then to pin 1, whatever its ways, and so on, or the other way round.
        self.assertEqual(repr(many_stories(SMALL, (0,))), "32")
        self.assertEqual(repr(sure_ways(SMALL, (0,))), "(None, None, None)")
        self.assertEqual(repr(next_pins(SMALL, (0,))), "(1, 2)")
        self.assertEqual(repr(many_stories(SMALL, (0, 0))), "0")
        self.assertEqual(repr(sure_ways(SMALL, (0, 0))), "None")
        self.assertEqual(repr(some_story(SMALL, (0, 0))), "None")
        self.assertEqual(repr(next_pins(SMALL, (0, 0))), "()")

    def test_rows_of_one_pin_have_all_ways_and_all_its_stands(self):
        for board in BOARDS:
            many = len(board)
            for pin in range(many):
                self.assertEqual(repr(many_stories(board, (pin,))), repr(2 ** many * 2 * (many - 1)))
                self.assertEqual(repr(sure_ways(board, (pin,))), repr((None,) * many))
                self.assertEqual(next_pins(board, (pin,)), tuple(other for other in range(many) if other != pin))
                self.assertEqual(some_story(board, (pin,))[1][0], pin)

    def test_rows_that_a_line_has(self):
        for board in BOARDS:
            for stand in kit.all_stands(board)[::6]:
                for length in (1, 2, 5, 17, 30):
                    row = seen(board, stand, length)
                    self.assertIs(is_story(board, row, (brute.ways_of(board), stand)), True)
                    self.assertGreater(many_stories(board, row), 0)
                    self.assertIs(is_story(board, row, some_story(board, row)), True)
                    self.assertIn(seen(board, stand, length + 1)[-1], next_pins(board, row))
                    for pin, way in enumerate(sure_ways(board, row)):
                        self.assertIn(way, (None, board[pin][2]))

    def test_ways_of_pins_that_the_row_never_has_may_be_either(self):
        board = MIXED[5]
        row = seen(board, (0, 1, "ahead"), 3)
        ways, stand = some_story(board, row)
        never = [pin for pin in range(8) if pin not in row]
        self.assertTrue(never)
        for pin in never:
            self.assertIsNone(sure_ways(board, row)[pin])
            for way in (LEFT, RIGHT):
                self.assertIs(is_story(board, row, (ways[:pin] + (way,) + ways[pin + 1:], stand)), True)
        self.assertEqual(many_stories(board, row) % 2 ** len(never), 0)

    def test_the_last_pin_of_the_row_may_have_either_way(self):
        for board in MIXED[1:]:
            row = seen(board, (0, 1, "ahead"), 2)
            self.assertIsNone(sure_ways(board, row)[row[-1]])
            self.assertGreater(len(next_pins(board, row)), 1)

    def test_the_ways_of_the_board_turn_nothing(self):
        for board in MIXED:
            row = seen(board, (1, 0, "behind"), 9)
            for pins in kit.subsets(len(board))[::5]:
                turned = with_ways(board, pins)
                for call in (many_stories, sure_ways, next_pins):
                    self.assertEqual(call(turned, row), call(board, row))
                self.assertIs(is_story(turned, row, some_story(board, row)), True)
                self.assertIs(is_story(turned, row, (brute.ways_of(board), (1, 0, "behind"))), True)

    def test_in_the_mirror_the_ways_are_the_other_ones(self):
        other = {LEFT: RIGHT, RIGHT: LEFT, None: None}
        for board in MIXED:
            row = seen(board, (2, 0, "ahead"), 11)
            self.assertEqual(many_stories(mirrored(board), row), many_stories(board, row))
            self.assertEqual(sure_ways(mirrored(board), row), tuple(other[way] for way in sure_ways(board, row)))

    def test_two_neighbours_alike(self):
        for board in MIXED:
            for row in ((0, 0), (0, 1, 1), (2, 2, 0, 1), (1,) * 30, (0, 1) * 14 + (2, 2)):
                self.assertEqual(repr(many_stories(board, row)), "0")
                self.assertIsNone(sure_ways(board, row))
                self.assertIsNone(some_story(board, row))
                self.assertEqual(repr(next_pins(board, row)), "()")
                stand = (row[0], 0 if row[0] != 0 else 1, "ahead")
                self.assertIs(is_story(board, row, (brute.ways_of(board), stand)), False)

    def test_with_one_pin_otherwise(self):
        for board in MIXED[1:]:
            row = seen(board, (0, 1, "ahead"), 30)
            ways = brute.ways_of(board)
            for at in (0, 3, 15, 29):
                for pin in range(len(board)):
                    if pin != row[at]:
                        other = row[:at] + (pin,) + row[at + 1:]
                        self.assertIs(is_story(board, other, (ways, (0, 1, "ahead"))), False)

    def test_thirty_pins_but_not_thirty_one(self):
        for board in MIXED:
            row = seen(board, (0, 1, "ahead"), 31)
            self.assertGreater(many_stories(board, row[:30]), 0)
            for call in (many_stories, sure_ways, some_story, next_pins, lambda one, row: is_story(one, row, None)):
                with self.assertRaises(NoRow):
                    call(board, row)
                with self.assertRaises(NoRow):
                    call(board, ())


class IsStory(unittest.TestCase):
    def test_but_for_one_way_or_the_stand(self):
        for board in MIXED:
            stand = (0, 1, "ahead")
            row = seen(board, stand, 30)
            ways = brute.ways_of(board)
            found = brute.stories(board, row) if len(board) < 6 else None
            for pin in range(len(board)):
                other = ways[:pin] + (kit.other_way(ways[pin]),) + ways[pin + 1:]
                expected = brute.owns_from(brute.steps(with_ways(board, (pin,))), stand, 30) == row
                self.assertIs(is_story(board, row, (other, stand)), expected)
            for one in kit.all_stands(board):
                expected = brute.owns_from(brute.steps(board), one, 30) == row
                self.assertIs(is_story(board, row, (ways, one)), expected)
                self.assertEqual(found is None or ((ways, one) in found) == expected, True)

    def test_what_is_of_another_form(self):
        for board in (SMALL, MIXED[2], MIXED[5]):
            stand = (0, 1, "ahead")
            ways = brute.ways_of(board)
            row = seen(board, stand, 7)
            self.assertIs(is_story(board, row, (ways, stand)), True)
            wrong = [
                *kit.STRANGE, (), ways, stand, (ways,), (stand,), (stand, ways), (ways, stand, 0), (ways, stand, stand),
                [ways, stand], {"ways": ways, "stand": stand}, {0: ways, 1: stand}, (list(ways), stand),
                (ways, list(stand)), (ways[:-1], stand), (ways[1:], stand), (ways + (LEFT,), stand), ((), stand),
                (ways + (None,), stand), (ways[:-1] + (None,), stand), ((None,) * len(board), stand), (None, stand),
                (ways, None), ("".join(ways), stand), (dict(enumerate(ways)), stand), (ways, ()), (ways, 0),
                (ways[:-1] + ("up",), stand), (ways[:-1] + ("",), stand), (ways[:-1] + ("Left",), stand),
                (ways[:-1] + ([ways[-1]],), stand), (ways[:-1] + ((ways[-1],),), stand), (ways[:-1] + ({},), stand),
                (ways[:-1] + (True,), stand), (ways[:-1] + (0,), stand), (tuple((way,) for way in ways), stand),
                (ways, (False, 1, "ahead")), (ways, (0, True, "ahead")), (ways, (0, 1, "left")), (board, stand),
                ((ways, stand), stand), (ways, (ways, stand)),
            ]
            for thing in wrong:
                with self.subTest(thing):
                    self.assertIs(is_story(board, row, thing), False)
            for one in kit.wrong_stands(board):
                with self.subTest(one):
                    self.assertIs(is_story(board, row, (ways, one)), False)

    def test_none_of_a_row_without_stories(self):
        for thing in (None, (brute.ways_of(SMALL), (0, 1, "ahead")), ()):
            self.assertIs(is_story(SMALL, (0, 0), thing), False)

    def test_from_another_pin_than_the_first_of_the_row(self):
        for board in MIXED:
            for stand in kit.all_stands(board):
                told = is_story(board, (0,), (brute.ways_of(board), stand))
                self.assertIs(told, stand[0] == 0)


class Refusals(unittest.TestCase):
    CALLS = (many_stories, sure_ways, some_story, next_pins, lambda board, row: is_story(board, row, None))

    def test_no_board(self):
        for board in kit.wrong_boards():
            for call in self.CALLS:
                for row in ((0,), ()):
                    with self.subTest(board), self.assertRaises(NoBoard):
                        call(board, row)

    def test_no_row(self):
        for board in (SMALL, MIXED[5]):
            for row in kit.wrong_rows(board):
                for call in self.CALLS:
                    with self.subTest(row), self.assertRaises(NoRow):
                        call(board, row)

    def test_no_row_goes_ahead_of_what_is_no_story(self):
        for thing in kit.STRANGE:
            with self.assertRaises(NoRow):
                is_story(SMALL, [0], thing)


if __name__ == "__main__":
    unittest.main()
