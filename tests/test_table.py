"""[90], [91]: a table, its deeds, and what it tells."""

import copy
import random
import unittest

import brute
import kit
import model
import oracle
from kit import BOARDS, LOOKS, MILLION_MILLION, MIXED, SMALL
from model import Model, told
from waypins.beats import after, first, number_of
from waypins.boards import with_ways
from waypins.errors import NoBoard, NoDeed, NoLook, NoNumber, NoPin, NotLaid, PinError
from waypins.numbers import numbers
from waypins.table import Table

LOOK = (1000, 1)


def laid(board, pin=0, look=LOOK):
    table = Table(board)
    table.lay(pin, look)
    return table


def gone(board, pin=0, look=LOOK, many=1):
    table = laid(board, pin, look)
    table.beats(many)
    return table


def in_each_state(board):
    """Tables without a line, with one laid, with one that has met a pin, and without one again."""
    without_line = gone(board)
    without_line.away()
    return (Table(board), laid(board), gone(board), without_line)


class Tables(unittest.TestCase):
    def refused(self, table, call, given, refusal):
        """It is refused by this class alone, and changes nothing."""
        before, given_before = told(table), repr(given)
        with self.subTest((call.__name__, given)):
            with self.assertRaises(PinError) as caught:
                call(*given)
            self.assertIs(type(caught.exception), refusal)
        self.assertEqual(told(table), before)
        self.assertEqual(repr(given), given_before)


class Deeds(Tables):
    def test_a_new_table(self):
        for board in BOARDS:
            table = Table(board)
            self.assertEqual(repr((table.board(), table.where(), len(table))), repr((board, None, 0)))
            self.refused(table, table.number, (), NotLaid)

    def test_a_small_board(self):
        # The stands of the line are told on paper, in test_beats.
        table = Table(SMALL)
        self.assertIsNone(table.lay(0, LOOK))
        self.assertEqual(repr((table.where(), table.number(), len(table))), "(('laid', 0, (1000, 1)), 1, 1)")
        self.assertIsNone(table.beats(1))
        self.assertEqual(repr((table.where(), table.number(), len(table))), "(('stands', (1, 0, 'behind')), 1, 2)")
        self.assertIsNone(table.beats(1))
        self.assertEqual(repr(table.where()), "('stands', (2, 1, 'behind'))")
        self.assertIsNone(table.turn(2))
        self.assertEqual(repr(table.board()), repr(kit.ways_turned(SMALL, (2,))))
        self.assertEqual(repr((table.where(), len(table))), "(('stands', (2, 1, 'behind')), 4)")
        self.assertIsNone(table.undo())
        self.assertEqual(repr((table.board(), len(table))), repr((SMALL, 3)))
        self.assertIsNone(table.away())
        self.assertEqual(repr((table.where(), len(table))), "(None, 4)")
        table.undo()
        table.undo()
        self.assertEqual(repr((table.where(), table.number(), len(table))), "(('stands', (1, 0, 'behind')), 1, 2)")

    def test_a_line_laid_meets_a_pin_first_by_its_first_beat(self):
        for board in BOARDS:
            for pin in range(len(board)):
                for look in LOOKS[:6]:
                    stand = oracle.first(board, pin, look)
                    row = brute.trail(brute.steps(board), stand)
                    for many in (1, 2, 3, 17, 1000):
                        table = gone(board, pin, look, many)
                        self.assertEqual(repr(table.where()), repr(("stands", row[(many - 1) % len(row)])))

    def test_it_keeps_its_look_till_then(self):
        for board in MIXED:
            for look in LOOKS:
                table = laid(board, 1, look)
                for many in range(1, 4):
                    table.beats(0)
                    self.assertEqual(repr((table.where(), len(table))), repr((("laid", 1, look), many + 1)))
                table.beats(1)
                self.assertEqual(table.where(), ("stands", first(board, 1, look)))
                table.beats(0)
                self.assertEqual((table.where(), len(table)), (("stands", first(board, 1, look)), 6))

    def test_many_beats(self):
        for board in MIXED:
            stand = first(board, 2, LOOK)
            for many in (MILLION_MILLION, MILLION_MILLION - 1, 999999999989):
                table = gone(board, 2, LOOK, many)
                self.assertEqual(table.where(), ("stands", after(board, stand, many - 1)))
                table.beats(many)
                self.assertEqual(table.where(), ("stands", after(board, after(board, stand, many - 1), many)))
                self.assertEqual(len(table), 3)

    def test_beats_at_once_or_one_by_one(self):
        for board in MIXED:
            table, other = laid(board), laid(board)
            table.beats(40)
            for _ in range(40):
                other.beats(1)
            self.assertTrue(table == other)
            self.assertEqual((len(table), len(other)), (2, 41))

    def test_a_way_turned_amid_leaves_the_line_where_it_lies(self):
        for board in MIXED:
            for table in in_each_state(board):
                where = table.where()
                for pin in range(len(board)):
                    table.turn(pin)
                    self.assertEqual(repr(table.where()), repr(where))
                    self.assertEqual(repr(table.board()), repr(kit.ways_turned(board, (pin,))))
                    table.turn(pin)
                    self.assertEqual(repr((table.where(), table.board())), repr((where, board)))

    def test_the_line_goes_on_by_the_way_turned(self):
        turned_off = 0
        for board in MIXED:
            for pin in range(len(board)):
                table, plain = gone(board), gone(board)
                table.turn(pin)
                for _ in range(30):
                    stand = table.where()[1]
                    table.beats(1)
                    plain.beats(1)
                    self.assertEqual(table.where(), ("stands", oracle.beat(kit.ways_turned(board, (pin,)), stand)))
                turned_off += table.where() != plain.where()
        self.assertGreater(turned_off, 10)

    def test_a_line_just_laid_turns_by_the_way_turned(self):
        for board in MIXED:
            for pin in range(len(board)):
                table = laid(board, pin)
                table.turn(pin)
                table.beats(1)
                turned = kit.ways_turned(board, (pin,))
                self.assertEqual(table.where(), ("stands", oracle.first(turned, pin, LOOK)))
                self.assertNotEqual(table.where(), ("stands", oracle.first(board, pin, LOOK)))

    def test_away_and_laid_again(self):
        for board in MIXED:
            table = gone(board)
            table.away()
            self.assertEqual(repr((table.where(), len(table))), "(None, 3)")
            self.refused(table, table.away, (), NotLaid)
            self.refused(table, table.beats, (0,), NotLaid)
            self.refused(table, table.number, (), NotLaid)
            table.lay(2, (1, 1000))
            self.assertEqual(repr((table.where(), len(table))), "(('laid', 2, (1, 1000)), 4)")
            table.lay(1, (-1, 1000))
            self.assertEqual(repr((table.where(), len(table))), "(('laid', 1, (-1, 1000)), 5)")
            table.undo()
            self.assertEqual(repr((table.where(), len(table))), "(('laid', 2, (1, 1000)), 4)")

    def test_all_deeds_undone_and_one_more(self):
        for board in MIXED:
            table = Table(board)
            states = [told(table)]
            for deed, *given in (
                ("turn", 1), ("lay", 0, LOOK), ("beats", 0), ("beats", 3), ("turn", 2), ("turn", 2), ("beats", 9),
                ("away",), ("lay", 2, (1, 1000)), ("turn", 0), ("lay", 1, LOOK), ("beats", MILLION_MILLION), ("away",),
            ):
                self.assertIsNone(getattr(table, deed)(*given))
                states.append(told(table))
            for state in reversed(states[:-1]):
                self.assertIsNone(table.undo())
                self.assertEqual(told(table), state)
            self.assertEqual(len(table), 0)
            for _ in range(2):
                self.refused(table, table.undo, (), NoDeed)
            table.turn(0)
            table.undo()
            self.refused(table, table.undo, (), NoDeed)

    def test_what_is_undone_is_no_deed_any_more(self):
        table = gone(SMALL)
        table.undo()
        table.turn(1)
        table.undo()
        self.assertEqual(told(table), told(laid(SMALL)))
        table.undo()
        self.assertEqual(told(table), told(Table(SMALL)))

    def test_any_deeds_one_after_another(self):
        chance = random.Random(90)
        refusals = set()
        for board in (SMALL, *MIXED, *BOARDS[::5]):
            table, kept = Table(board), Model(board)
            for _ in range(150):
                deed, *given = model.some_deed(chance, board)
                due = kept.due(deed, *given)
                if due is None:
                    self.assertIsNone(getattr(table, deed)(*given))
                    kept.do(deed, *given)
                else:
                    self.refused(table, getattr(table, deed), tuple(given), due)
                    refusals.add(due)
                self.assertEqual(told(table), model.expected(kept), (deed, given))
        self.assertEqual(refusals, {NoPin, NoLook, NoNumber, NotLaid, NoDeed})

    def test_a_line_laid_keeps_the_number_that_its_look_tells(self):
        for board in BOARDS:
            for look in LOOKS[:5]:
                for pin, number in enumerate(numbers(board, look)):
                    table = laid(board, pin, look)
                    self.assertEqual(repr(table.number()), repr(number))
                    for many in (0, 1, 1, 2, 5, 100):
                        table.beats(many)
                        self.assertEqual(repr(table.number()), repr(number))

    def test_the_number_is_told_by_the_ways_as_they_are_now(self):
        unlike = 0
        for board in MIXED:
            for pin in range(len(board)):
                turned = with_ways(board, (pin,))
                for table in (laid(board), gone(board)):
                    number = table.number()
                    table.turn(pin)
                    if table.where()[0] == "laid":
                        self.assertEqual(table.number(), numbers(turned, LOOK)[0])
                    else:
                        self.assertEqual(table.number(), number_of(turned, table.where()[1]))
                    unlike += table.number() != number
        self.assertGreater(unlike, 10)


class Refusals(Tables):
    def test_no_board(self):
        for board in kit.wrong_boards():
            with self.subTest(board), self.assertRaises(PinError) as caught:
                Table(board)
            self.assertIs(type(caught.exception), NoBoard)

    def test_no_pin(self):
        for board in (SMALL, MIXED[5]):
            for table in in_each_state(board):
                for pin in kit.wrong_pin_numbers(board):
                    self.refused(table, table.turn, (pin,), NoPin)
                    self.refused(table, table.lay, (pin, LOOK), NoPin)
                    self.refused(table, table.lay, (pin, None), NoPin)

    def test_no_look(self):
        for board in (SMALL, MIXED[5]):
            for table in in_each_state(board):
                for look in kit.wrong_looks(board):
                    self.refused(table, table.lay, (1, look), NoLook)

    def test_no_number_goes_ahead_of_not_laid(self):
        for board in (SMALL, MIXED[5]):
            for table in in_each_state(board):
                for many in kit.wrong_beats():
                    self.refused(table, table.beats, (many,), NoNumber)

    def test_not_laid(self):
        for board in (SMALL, MIXED[5]):
            turned = Table(board)
            turned.turn(0)
            for table in (Table(board), in_each_state(board)[3], turned):
                for many in (0, 1, MILLION_MILLION):
                    self.refused(table, table.beats, (many,), NotLaid)
                self.refused(table, table.away, (), NotLaid)
                self.refused(table, table.number, (), NotLaid)

    def test_behind_what_was_refused_deeds_are_done_and_undone_as_ever(self):
        table, plain = gone(MIXED[2]), gone(MIXED[2])
        for call, *given in (
            (table.turn, 5), (table.lay, 0, (0, 0)), (table.lay, True, LOOK), (table.beats, -1), (table.beats, "1"),
        ):
            with self.assertRaises(PinError):
                call(*given)
        for one in (table, plain):
            one.turn(1)
            one.beats(5)
            one.undo()
        self.assertEqual(told(table), told(plain))


class Told(Tables):
    def test_what_was_told_or_handed_in_later_on(self):
        table = laid(SMALL)
        told_first = (table.board(), table.where())
        before = repr(told_first)
        table.turn(0)
        table.beats(2)
        self.assertEqual(repr(told_first), before)
        self.assertIs(type(told_first[0]), tuple)

    def test_the_same_question_has_the_same_answer(self):
        for table in in_each_state(MIXED[3]):
            self.assertEqual(len({told(table) for _ in range(3)}), 1)

    def test_questions_are_no_deeds(self):
        for table in in_each_state(MIXED[3]):
            many = len(table)
            table.board(), table.where(), repr(table), len(table), table.twin(), table == table, told(table)
            self.assertEqual(len(table), many)

    def test_no_table_hangs_on_another(self):
        tables = [Table(board) for board in MIXED]
        for pin in range(3):
            for table in tables[pin:]:
                table.lay(pin, LOOK)
                table.turn(pin)
        self.assertEqual([len(table) for table in tables], [2, 4, 6, 6, 6, 6])
        self.assertEqual(tables[0].board(), kit.ways_turned(MIXED[0], (0,)))
        self.assertEqual(tables[5].board(), kit.ways_turned(MIXED[5], (0, 1, 2)))

    def test_repr_is_the_same_words_whatever_the_number(self):
        self.assertEqual(repr(Table(kit.pinned(kit.PLACES[2], kit.WAYS[1]))), "Table(5 pins)")
        for board in MIXED:
            for table in in_each_state(board):
                self.assertEqual(repr(table), "Table(" + str(len(board)) + " pins)")

    def test_what_was_told_may_be_handed_in(self):
        table = gone(MIXED[4], 3, LOOKS[7], 9)
        other = Table(table.board())
        table.lay(table.number(), LOOK)
        other.lay(*table.where()[1:])
        other.beats(len(table))
        other.beats(table.number())
        self.assertEqual(other.where()[0], "stands")


class Alike(Tables):
    def alike(self, one, other, expected):
        self.assertIs(one == other, expected)
        self.assertIs(other == one, expected)
        self.assertIs(one != other, not expected)
        self.assertIs(other != one, not expected)

    def test_the_same_board_and_the_same_place(self):
        for board in BOARDS:
            for one, other in zip(in_each_state(board), in_each_state(board)):
                self.alike(one, one, True)
                self.alike(one, other, True)

    def test_come_to_by_other_deeds(self):
        for board in MIXED:
            one = gone(board, 0, LOOK, 5)
            other = Table(board)
            other.turn(1)
            other.lay(0, LOOK)
            other.turn(1)
            for many in (0, 1, 2, 0, 2):
                other.beats(many)
            self.alike(one, other, True)
            self.assertNotEqual(len(one), len(other))
            other.undo()
            self.alike(one, other, False)
            other.beats(2)
            self.alike(one, other, True)
            self.alike(Table(board), in_each_state(board)[3], True)

    def test_unlike_in_one_way(self):
        for board in MIXED:
            for at in range(len(board)):
                for one, other in zip(in_each_state(board), in_each_state(board)):
                    other.turn(at)
                    self.alike(one, other, False)
                    other.turn(at)
                    self.alike(one, other, True)

    def test_unlike_in_a_place_of_a_pin_or_in_the_order_of_pins(self):
        self.alike(Table(SMALL), Table(kit.changed(SMALL, 2, x=12)), False)
        self.alike(Table(SMALL), Table(SMALL[::-1]), False)
        self.alike(Table(MIXED[1]), Table(MIXED[1][:3]), False)

    def test_unlike_in_a_look_or_a_pin(self):
        one = laid(MIXED[3])
        for pin, look in ((1, LOOK), (0, (1001, 1)), (0, (2000, 2)), (0, (-1000, -1)), (0, (1000, 2))):
            self.alike(one, laid(MIXED[3], pin, look), False)
        self.alike(one, laid(MIXED[3], 0, (1000, 1)), True)

    def test_unlike_in_a_stand_or_in_having_met_a_pin(self):
        for board in MIXED:
            states = in_each_state(board)[:3] + (gone(board, many=2), gone(board, look=(-1000, -1)))
            for at, one in enumerate(states):
                for to, other in enumerate(states):
                    self.alike(one, other, at == to)

    def test_things_of_other_kinds(self):
        for table in in_each_state(SMALL):
            things = (
                *kit.STRANGE, *kit.wrong_boards(), SMALL, table.where(), (SMALL, table.where()), repr(table), 0,
                len(table), Table, object(), "Table(3 pins)", [table], (table,), {"table": 1},
            )
            for thing in things:
                self.alike(table, thing, False)

    def test_a_thing_that_is_like_all_is_no_table(self):
        class LikeAll:
            def __eq__(self, other):
                return True

        self.assertIs(Table(SMALL) == LikeAll(), False)
        self.assertIs(Table(SMALL) != LikeAll(), True)


class Twins(Tables):
    def test_a_twin_is_another_one_like_it(self):
        for board in BOARDS[::3]:
            for table in in_each_state(board):
                twin = table.twin()
                self.assertIs(type(twin), Table)
                self.assertIsNot(twin, table)
                self.assertIs(twin == table, True)
                self.assertIs(twin != table, False)
                self.assertEqual(told(twin), told(table))

    def test_it_has_the_same_deeds_that_can_be_undone(self):
        for board in MIXED:
            table = gone(board, 1, LOOK, 4)
            table.turn(0)
            table.away()
            twin = table.twin()
            for _ in range(4):
                table.undo()
                twin.undo()
                self.assertEqual(told(twin), told(table))
            self.refused(twin, twin.undo, (), NoDeed)

    def test_neither_hangs_on_the_other(self):
        for table in in_each_state(MIXED[2]):
            twin = table.twin()
            for one, other in ((table, twin), (twin, table)):
                before = told(other)
                for deed, *given in (
                    ("turn", 2), ("lay", 3, LOOK), ("beats", 7), ("turn", 3), ("away",), ("undo",), ("undo",),
                ):
                    getattr(one, deed)(*given)
                    self.assertEqual(told(other), before)
                while len(one) > 0:
                    one.undo()
                self.assertEqual(told(other), before)

    def test_a_twin_of_a_twin(self):
        table = gone(SMALL)
        twin = table.twin().twin()
        table.undo()
        self.assertEqual(told(twin), told(gone(SMALL)))

    def test_any_deeds_behind_a_twin(self):
        chance = random.Random(91)
        board = MIXED[4]
        table, kept = Table(board), Model(board)
        others = []
        for at in range(300):
            deed, *given = model.some_deed(chance, board)
            if kept.due(deed, *given) is None:
                getattr(table, deed)(*given)
                kept.do(deed, *given)
            if at == 100 or at == 200:
                others.append((table, copy.deepcopy(kept)))
                table = table.twin()
        for other, was in others:
            self.assertEqual(told(other), model.expected(was))
        self.assertEqual(told(table), model.expected(kept))


if __name__ == "__main__":
    unittest.main()
