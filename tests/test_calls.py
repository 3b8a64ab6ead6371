"""[2]: what holds of every function, and the interface of the modules that have landed."""

import copy
import inspect
import itertools
import unittest

import kit
from kit import MIXED, SMALL
from waypins import beats, boards, changes, desk, errors, numbers, pairs, rounds, seen, table, texts, wishes
from waypins.errors import NoBoard, NoLook, NoNumber, NoPin, NoPins, NoRow, NoStand, NoText

STAND = (0, 1, "ahead")
LOOK = (1000, 1)
BOARD = ("board", SMALL, NoBoard)
ONE = ("one", STAND, NoStand)
OTHER = ("other", (2, 0, "behind"), NoStand)
ROW = ("row", (0, 2, 1), NoRow)
# The modules with their functions, as the interface lists them.
INTERFACE = (
    (boards, "is_board with_ways mirrored without direction"),
    (numbers, "order numbers heights of_number"),
    (beats, "is_stand number_of beat ahead first after meetings"),
    (rounds, "round_of rounds turning together pins_of rounds_at sums"),
    (pairs, "meet how_often"),
    (wishes, "to_all keeping_off bounds making joining"),
    (seen, "many_stories sure_ways is_story some_story next_pins"),
    (changes, "count_turned rounds_kept rounds_left"),
    (texts, "board_text read_board"),
)
# The functions with their arguments: name, a right one, the refusal of a wrong one (None: anything is answered).
CALLS = (
    (boards.is_board, (("thing", SMALL, None),)),
    (boards.with_ways, (BOARD, ("pins", (0, 2), NoPins))),
    (boards.mirrored, (BOARD,)),
    (boards.without, (("board", MIXED[1], NoBoard), ("pin", 2, NoPin))),
    (boards.direction, (BOARD, ("one", 1, NoPin), ("other", 0, NoPin))),
    (numbers.order, (BOARD, ("look", LOOK, NoLook))),
    (numbers.numbers, (BOARD, ("look", LOOK, NoLook))),
    (numbers.heights, (BOARD, ("look", LOOK, NoLook))),
    (numbers.of_number, (BOARD, ("number", 0, NoNumber), ("look", LOOK, NoLook))),
    (beats.is_stand, (BOARD, ("thing", STAND, None))),
    (beats.number_of, (BOARD, ("stand", STAND, NoStand))),
    (beats.beat, (BOARD, ("stand", STAND, NoStand))),
    (beats.ahead, (BOARD, ("stand", STAND, NoStand))),
    (beats.first, (BOARD, ("pin", 0, NoPin), ("look", LOOK, NoLook))),
    (beats.after, (BOARD, ("stand", STAND, NoStand), ("many", 5, NoNumber))),
    (beats.meetings, (BOARD, ("pin", 0, NoPin))),
    (rounds.round_of, (BOARD, ("stand", STAND, NoStand))),
    (rounds.rounds, (BOARD,)),
    (rounds.turning, (BOARD, ("stand", STAND, NoStand))),
    (rounds.together, (BOARD, ONE, OTHER)),
    (rounds.pins_of, (BOARD, ("stand", STAND, NoStand))),
    (rounds.rounds_at, (BOARD, ("pin", 0, NoPin))),
    (rounds.sums, (BOARD,)),
    (pairs.meet, (BOARD, ONE, OTHER)),
    (pairs.how_often, (BOARD, ONE, OTHER)),
    (wishes.to_all, (BOARD, ("stand", STAND, NoStand))),
    (wishes.keeping_off, (BOARD, ("stand", STAND, NoStand), ("pins", (1, 2), NoPins))),
    (wishes.bounds, (BOARD,)),
    (wishes.making, (BOARD, ("many", 3, NoNumber))),
    (wishes.joining, (BOARD, ONE, OTHER)),
    (seen.many_stories, (BOARD, ROW)),
    (seen.sure_ways, (BOARD, ROW)),
    (seen.is_story, (BOARD, ROW, ("thing", (("left", "left", "right"), STAND), None))),
    (seen.some_story, (BOARD, ROW)),
    (seen.next_pins, (BOARD, ROW)),
    (changes.count_turned, (BOARD, ("pin", 0, NoPin))),
    (changes.rounds_kept, (("board", MIXED[1], NoBoard), ("pin", 3, NoPin))),
    (changes.rounds_left, (("board", MIXED[1], NoBoard), ("pin", 3, NoPin))),
    (texts.board_text, (BOARD,)),
    (texts.read_board, (("text", "0,0< 40,3< 11,29>", NoText),)),
)
# The classes, and their methods with their arguments; those of a table may be called one behind the other.
METHODS = (
    (table.Table, (("board", SMALL),), (
        ("lay", (("pin", 0), ("look", LOOK))), ("turn", (("pin", 2),)), ("beats", (("many", 5),)), ("board", ()),
        ("where", ()), ("number", ()), ("twin", ()), ("away", ()), ("undo", ()),
    )),
    (desk.Desk, (), (("say", (("line", "show"),)),)),
)


def wrong_ones(call, refusal, board):
    """What is none of the kind that is refused so."""
    if refusal is NoBoard:
        return kit.wrong_boards()
    if refusal is NoNumber:
        return kit.wrong_beats() if call is beats.after else kit.wrong_numbers()
    if refusal is NoText:
        return kit.wrong_texts()
    kinds = {
        NoPins: kit.wrong_pin_tuples, NoPin: kit.wrong_pin_numbers, NoLook: kit.wrong_looks, NoRow: kit.wrong_rows,
        NoStand: kit.wrong_stands,
    }
    return kinds[refusal](board)


def right_ones(arguments):
    return [right for _, right, _ in arguments]


class Calls(unittest.TestCase):
    def refused(self, call, arguments, refusal):
        """The call is refused by this class alone, and what was handed in is as it was."""
        before = copy.deepcopy(arguments)
        with self.subTest((call.__name__, arguments)):
            with self.assertRaises(errors.PinError) as caught:
                call(*arguments)
            self.assertIs(type(caught.exception), refusal)
        self.assertEqual(repr(arguments), repr(before))

    def test_names_of_the_interface(self):
        for call, arguments in CALLS:
            found = inspect.signature(call).parameters.values()
            self.assertEqual([one.name for one in found], [name for name, _, _ in arguments])
            self.assertTrue(all(one.kind is one.POSITIONAL_OR_KEYWORD for one in found))
            self.assertTrue(all(one.default is one.empty for one in found))

    def test_each_stands_in_its_own_module(self):
        for module, words in INTERFACE:
            for word in words.split():
                self.assertEqual(vars(module)[word].__module__, module.__name__)
        told = [(call.__module__, call.__name__) for call, _ in CALLS]
        self.assertEqual(told, [(module.__name__, word) for module, words in INTERFACE for word in words.split()])

    def test_names_of_the_classes_and_their_methods(self):
        for made, arguments, methods in METHODS:
            self.assertEqual(made.__module__, "waypins." + made.__name__.lower())
            self.assertEqual(list(inspect.signature(made).parameters), [name for name, _ in arguments])
            for word, given in methods:
                found = list(inspect.signature(vars(made)[word]).parameters.values())[1:]
                self.assertEqual([one.name for one in found], [name for name, _ in given])
                self.assertTrue(all(one.kind is one.POSITIONAL_OR_KEYWORD for one in found))
                self.assertTrue(all(one.default is one.empty for one in found))
        for word in ("__len__", "__eq__", "__repr__"):
            self.assertIn(word, vars(table.Table))

    def test_methods_by_places_and_by_names_in_another_order(self):
        for made, arguments, methods in METHODS:
            by_places = made(*[right for _, right in arguments])
            by_names = made(**dict(arguments))
            for word, given in methods:
                before = copy.deepcopy(given)
                told = repr(getattr(by_places, word)(*[right for _, right in given]))
                self.assertEqual(repr(getattr(by_names, word)(**dict(reversed(given)))), told)
                self.assertEqual(repr(given), repr(before))

    def test_deeds_tell_none(self):
        made = table.Table(SMALL)
        for call, *given in ((made.lay, 0, LOOK), (made.turn, 0), (made.beats, 3), (made.away,), (made.undo,)):
            self.assertIsNone(call(*given))

    def test_by_places_and_by_names_in_another_order(self):
        for call, arguments in CALLS:
            by_places = call(*right_ones(arguments))
            for row in itertools.permutations(arguments):
                by_names = call(**{name: right for name, right, _ in row})
                self.assertEqual(repr(by_names), repr(by_places))

    def test_the_same_question_has_the_same_answer(self):
        answers = [repr(call(*right_ones(arguments))) for call, arguments in CALLS]
        for board in MIXED:
            beats.meetings(board, 0)
            beats.beat(board, STAND)
        self.assertEqual([repr(call(*right_ones(arguments))) for call, arguments in reversed(CALLS)], answers[::-1])

    def test_one_wrong_argument(self):
        for call, arguments in CALLS:
            right = right_ones(arguments)
            answer = repr(call(*right))
            for at, (_, _, refusal) in enumerate(arguments):
                if refusal is not None:
                    for wrong in wrong_ones(call, refusal, right[0]):
                        self.refused(call, right[:at] + [wrong] + right[at + 1:], refusal)
            self.assertEqual(repr(call(*right)), answer)

    def test_of_several_wrong_arguments_the_leftmost_is_refused(self):
        for call, arguments in CALLS:
            rows = []
            for _, right, refusal in arguments:
                wrong = [] if refusal is None else wrong_ones(call, refusal, arguments[0][1])[::6]
                rows.append([(right, None)] + [(one, refusal) for one in wrong])
            for chosen in itertools.product(*rows):
                due = [refusal for _, refusal in chosen if refusal is not None]
                if len(due) > 1:
                    self.refused(call, [one for one, _ in chosen], due[0])

    def test_all_wrong_by_names_in_another_order(self):
        for call, arguments in CALLS:
            if len(arguments) > 1:
                with self.assertRaises(errors.PinError) as caught:
                    call(**{name: None for name, _, _ in reversed(arguments)})
                self.assertIs(type(caught.exception), NoBoard)

    def test_wrong_ones_of_a_greater_board(self):
        board = MIXED[5]
        for call, arguments in CALLS:
            if len(arguments) == 2 and arguments[1][2] is not None:
                refusal = arguments[1][2]
                for wrong in wrong_ones(call, refusal, board):
                    self.refused(call, [board, wrong], refusal)

    def test_of_anything_the_answer_is_true_or_false(self):
        for thing in (*kit.STRANGE, *kit.wrong_boards()):
            before = copy.deepcopy(thing)
            self.assertIs(boards.is_board(thing), False)
            self.assertIs(beats.is_stand(SMALL, thing), False)
            self.assertIs(seen.is_story(SMALL, (0, 2, 1), thing), False)
            self.refused(desk.Desk().say, [thing], errors.NoLine)
            self.assertEqual(repr(thing), repr(before))

    def test_what_was_told_may_be_handed_in(self):
        board = boards.mirrored(boards.without(boards.with_ways(MIXED[5], (1, 6)), 3))
        stand = beats.after(board, beats.first(board, 2, LOOK), 9)
        self.assertIs(beats.is_stand(board, beats.ahead(board, stand)), True)
        with self.assertRaises(NoLook):
            numbers.order(board, boards.direction(board, 4, 2))
        board = boards.with_ways(board, wishes.making(board, wishes.bounds(board)[1]))
        word, many = rounds.together(board, stand, beats.after(board, stand, 3))
        self.assertEqual((word, beats.after(board, stand, many)), ("one", beats.after(board, stand, 3)))
        row = rounds.pins_of(board, stand)
        story = seen.some_story(board, row[:1])
        self.assertIs(seen.is_story(board, row[:1], story), True)
        self.assertEqual(rounds.turning(board, rounds.rounds(board)[0][0]), rounds.turning(board, (0, 1, "ahead")))
        for stands in (*changes.rounds_kept(board, 2), *changes.rounds_left(board, 2)):
            self.assertEqual(rounds.round_of(board, stands[-1]), stands)
        self.assertEqual(texts.read_board(texts.board_text(board)), board)
        self.assertEqual(desk.Desk().say("board " + texts.board_text(board)), "ok")

    def test_what_was_handed_in_is_as_it_was(self):
        for call, arguments in CALLS:
            right = right_ones(arguments)
            before = copy.deepcopy(right)
            call(*right)
            self.assertEqual(repr(right), repr(before))


if __name__ == "__main__":
    unittest.main()
