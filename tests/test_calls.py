"""[2]: what holds of every function, and the interface of the modules that have landed."""

import copy
import inspect
import itertools
import unittest

import kit
from kit import MIXED, SMALL
from waypins import beats, boards, errors, numbers
from waypins.errors import NoBoard, NoLook, NoNumber, NoPin, NoPins, NoStand

STAND = (0, 1, "ahead")
LOOK = (1000, 1)
BOARD = ("board", SMALL, NoBoard)
# The functions with their arguments: name, a right one, the refusal of a wrong one (None: anything is answered).
CALLS = (
    (boards.is_board, (("thing", SMALL, None),)),
    (boards.with_ways, (BOARD, ("pins", (0, 2), NoPins))),
    (boards.mirrored, (BOARD,)),
    (boards.without, (("board", MIXED[1], NoBoard), ("pin", 2, NoPin))),
    (boards.direction, (BOARD, ("one", 1, NoPin), ("other", 0, NoPin))),
    (numbers.order, (BOARD, ("look", LOOK, NoLook))),
    (numbers.numbers, (BOARD, ("look", LOOK, NoLook))),
    (numbers.heights, (BOARD, ("look", LOOK, NoLook))),
    (numbers.of_number, (BOARD, ("number", 0, NoNumber), ("look", LOOK, NoLook))),
    (beats.is_stand, (BOARD, ("thing", STAND, None))),
    (beats.number_of, (BOARD, ("stand", STAND, NoStand))),
    (beats.beat, (BOARD, ("stand", STAND, NoStand))),
    (beats.ahead, (BOARD, ("stand", STAND, NoStand))),
    (beats.first, (BOARD, ("pin", 0, NoPin), ("look", LOOK, NoLook))),
    (beats.after, (BOARD, ("stand", STAND, NoStand), ("many", 5, NoNumber))),
    (beats.meetings, (BOARD, ("pin", 0, NoPin))),
)


def wrong_ones(name, board):
    """What is none of the kind of this argument."""
    if name == "board":
        return kit.wrong_boards()
    if name == "pins":
        return kit.wrong_pin_tuples(board)
    if name in ("pin", "one", "other"):
        return kit.wrong_pin_numbers(board)
    if name == "look":
        return kit.wrong_looks(board)
    if name == "number":
        return kit.wrong_numbers()
    if name == "many":
        return kit.wrong_beats()
    return kit.wrong_stands(board)


def right_ones(arguments):
    return [right for _, right, _ in arguments]


class Calls(unittest.TestCase):
    def refused(self, call, arguments, refusal):
        """The call is refused by this class alone, and what was handed in is as it was."""
        before = copy.deepcopy(arguments)
        with self.subTest((call.__name__, arguments)):
            with self.assertRaises(errors.PinError) as caught:
                call(*arguments)
            self.assertIs(type(caught.exception), refusal)
        self.assertEqual(repr(arguments), repr(before))

    def test_names_of_the_interface(self):
        for call, arguments in CALLS:
            found = inspect.signature(call).parameters.values()
            self.assertEqual([one.name for one in found], [name for name, _, _ in arguments])
            self.assertTrue(all(one.kind is one.POSITIONAL_OR_KEYWORD for one in found))
            self.assertTrue(all(one.default is one.empty for one in found))

    def test_each_stands_in_its_own_module(self):
        for module in (boards, numbers, beats):
            for call, _ in CALLS:
                if getattr(module, call.__name__, None) is call:
                    self.assertEqual(call.__module__, module.__name__)
        told = {call.__module__ for call, _ in CALLS}
        self.assertEqual(told, {"waypins.boards", "waypins.numbers", "waypins.beats"})

    def test_by_places_and_by_names_in_another_order(self):
        for call, arguments in CALLS:
            by_places = call(*right_ones(arguments))
            for row in itertools.permutations(arguments):
                by_names = call(**{name: right for name, right, _ in row})
                self.assertEqual(repr(by_names), repr(by_places))

    def test_the_same_question_has_the_same_answer(self):
        answers = [repr(call(*right_ones(arguments))) for call, arguments in CALLS]
        for board in MIXED:
            beats.meetings(board, 0)
            beats.beat(board, STAND)
        self.assertEqual([repr(call(*right_ones(arguments))) for call, arguments in reversed(CALLS)], answers[::-1])

    def test_one_wrong_argument(self):
        for call, arguments in CALLS:
            right = right_ones(arguments)
            answer = repr(call(*right))
            for at, (name, _, refusal) in enumerate(arguments):
                if refusal is not None:
                    for wrong in wrong_ones(name, right[0]):
                        self.refused(call, right[:at] + [wrong] + right[at + 1:], refusal)
            self.assertEqual(repr(call(*right)), answer)

    def test_of_several_wrong_arguments_the_leftmost_is_refused(self):
        for call, arguments in CALLS:
            rows = []
            for name, right, refusal in arguments:
                wrong = [] if refusal is None else wrong_ones(name, arguments[0][1])[::6]
                rows.append([(right, None)] + [(one, refusal) for one in wrong])
            for chosen in itertools.product(*rows):
                due = [refusal for _, refusal in chosen if refusal is not None]
                if len(due) > 1:
                    self.refused(call, [one for one, _ in chosen], due[0])

    def test_all_wrong_by_names_in_another_order(self):
        for call, arguments in CALLS:
            if len(arguments) > 1:
                with self.assertRaises(errors.PinError) as caught:
                    call(**{name: None for name, _, _ in reversed(arguments)})
                self.assertIs(type(caught.exception), NoBoard)

    def test_wrong_ones_of_a_greater_board(self):
        board = MIXED[5]
        calls = (
            (boards.with_ways, ("pins",)), (boards.without, ("pin",)), (numbers.order, ("look",)),
            (numbers.numbers, ("look",)), (numbers.heights, ("look",)), (beats.beat, ("stand",)),
            (beats.ahead, ("stand",)), (beats.number_of, ("stand",)), (beats.meetings, ("pin",)),
        )
        refusals = {"pins": NoPins, "pin": NoPin, "look": NoLook, "stand": NoStand}
        for call, (name,) in calls:
            for wrong in wrong_ones(name, board):
                self.refused(call, [board, wrong], refusals[name])

    def test_of_anything_the_answer_is_true_or_false(self):
        for thing in (*kit.STRANGE, *kit.wrong_boards()):
            before = copy.deepcopy(thing)
            self.assertIs(boards.is_board(thing), False)
            self.assertIs(beats.is_stand(SMALL, thing), False)
            self.assertEqual(repr(thing), repr(before))

    def test_what_was_told_may_be_handed_in(self):
        board = boards.mirrored(boards.without(boards.with_ways(MIXED[5], (1, 6)), 3))
        stand = beats.after(board, beats.first(board, 2, LOOK), 9)
        self.assertIs(beats.is_stand(board, beats.ahead(board, stand)), True)
        with self.assertRaises(NoLook):
            numbers.order(board, boards.direction(board, 4, 2))


if __name__ == "__main__":
    unittest.main()
