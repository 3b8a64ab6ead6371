"""[101]: a desk, and the lines that it is told."""

import random
import re
import unittest

import brute
import kit
import model
from kit import BOARDS, MIXED, SMALL
from model import Model
from test_texts import written
from waypins.desk import Desk
from waypins.errors import NoBoard, NoDeed, NoLine, NoLook, NoNumber, NoPin, NoText, NotLaid, PinError
from waypins.rounds import pins_of, rounds, turning
from waypins.table import Table
from waypins.texts import board_text

FIRST = ((0, 0, "left"), (40, 3, "left"), (11, 29, "left"))
NUMBER = "(?:0|-?[1-9][0-9]{0,11})"
LINE = re.compile(
    f"lay {NUMBER} {NUMBER} {NUMBER}|(?:turn|beats) {NUMBER}|away|undo|show|where|number|rounds|turns|pins"
)
QUESTIONS = ("show", "where", "number", "rounds", "turns", "pins")


def said(desk, *lines):
    return [desk.say(line) for line in lines]


def told(desk):
    """What a desk answers to all questions."""
    answers = []
    for question in QUESTIONS:
        try:
            answers.append(desk.say(question))
        except NotLaid:
            answers.append(NotLaid)
    return answers


def desk_at(board, *lines):
    desk = Desk()
    said(desk, "board " + kit.text_of(board), *lines)
    return desk


class ModelDesk:
    """What a desk must answer."""

    def __init__(self):
        self.table = Model(FIRST)

    def say(self, line):
        """The answer to the line, or the refusal that is due."""
        if line.startswith("board "):
            board = written(line[6:])
            if board is None:
                return NoText
            self.table = Model(board)
            return "ok"
        if not LINE.fullmatch(line):
            return NoLine
        word, *parts = line.split(" ")
        if word in QUESTIONS:
            return getattr(self, word)()
        given = [int(part) for part in parts]
        if word == "lay":
            given = [given[0], tuple(given[1:])]
        due = self.table.due(word, *given)
        if due is None:
            self.table.do(word, *given)
        return due or "ok"

    def show(self):
        return kit.text_of(self.table.board)

    def where(self):
        if self.table.line is None:
            return "none"
        return re.sub("[^-a-z0-9 ]|laid|stands", "", repr(self.table.line)).strip()

    def number(self):
        return NotLaid if self.table.line is None else str(self.table.number())

    def rounds(self):
        return str(len(brute.rounds(self.table.board)))

    def turns(self):
        if self.table.line is None or self.table.line[0] == "laid":
            return NotLaid
        return brute.turning(self.table.board, brute.round_of(self.table.board, self.table.line[1]))

    def pins(self):
        if self.table.line is None or self.table.line[0] == "laid":
            return NotLaid
        return " ".join(str(pin) for pin in sorted(brute.pins_of(self.table.board, self.table.line[1])))


class Desks(unittest.TestCase):
    def refused(self, desk, line, refusal):
        """The line is refused by this class alone, and changes nothing."""
        before = told(desk)
        with self.subTest(line):
            with self.assertRaises(PinError) as caught:
                desk.say(line)
            self.assertIs(type(caught.exception), refusal)
        self.assertEqual(told(desk), before)


class Lines(Desks):
    def test_a_new_desk(self):
        self.assertEqual(told(Desk()), ["0,0< 40,3< 11,29<", "none", NotLaid, "3", NotLaid, NotLaid])
        self.refused(Desk(), "undo", NoDeed)
        self.refused(Desk(), "away", NotLaid)

    def test_many_lines(self):
        desk = Desk()
        for line, answer in (
            ("board 0,0< 40,3< 11,29>", "ok"), ("show", "0,0< 40,3< 11,29>"), ("where", "none"),
            ("lay 0 1000 1", "ok"), ("where", "0 1000 1"), ("number", "1"), ("beats 0", "ok"), ("where", "0 1000 1"),
            ("beats 1", "ok"), ("where", "1 0 behind"), ("number", "1"), ("turns", "left"), ("pins", "0 1 2"),
            ("turn 1", "ok"), ("show", "0,0< 40,3> 11,29>"), ("where", "1 0 behind"), ("turn 1", "ok"),
            ("beats 1", "ok"), ("where", "2 1 behind"), ("beats 999999999999", "ok"), ("where", "2 1 ahead"),
            ("undo", "ok"), ("where", "2 1 behind"), ("away", "ok"), ("where", "none"), ("undo", "ok"),
            ("where", "2 1 behind"), ("rounds", "3"), ("lay 2 -1 -1000", "ok"), ("where", "2 -1 -1000"),
            ("board 29,81< 99,75> 25,99< 66,0< 37,63>", "ok"), ("where", "none"),
            ("show", "29,81< 99,75> 25,99< 66,0< 37,63>"),
        ):
            self.assertEqual(repr(desk.say(line)), repr(answer), line)
        self.refused(desk, "undo", NoDeed)

    def test_answers_on_many_boards(self):
        for board in BOARDS:
            desk = desk_at(board)
            self.assertEqual(repr(desk.say("show")), repr(kit.text_of(board)))
            self.assertEqual(repr(desk.say("rounds")), repr(str(len(brute.rounds(board)))))
            self.assertEqual(said(desk, "lay 1 1000 1", "beats 3", "where", "turns", "pins"), self.expected(board))

    def expected(self, board):
        stand = model.behind(board, ("laid", 1, (1000, 1)), 3)[1]
        turns = brute.turning(board, brute.round_of(board, stand))
        pins = " ".join(map(str, sorted(brute.pins_of(board, stand))))
        return ["ok", "ok", "{} {} {}".format(*stand), turns, pins]

    def test_some_lines_turn_right_and_some_not_at_all(self):
        found = set()
        pins = set()
        for board in BOARDS:
            for pin in range(len(board)):
                *_, turns, its = said(desk_at(board), f"lay {pin} 1 1000", "beats 1", "turns", "pins")
                found.add(turns)
                pins.add(len(board) - len(its.split(" ")))
        self.assertEqual(found, {"left", "right", "none"})
        self.assertGreater(len(pins), 2)

    def test_as_its_table_does(self):
        chance = random.Random(102)
        for board in MIXED:
            desk, table = desk_at(board), Table(board)
            for _ in range(60):
                deed, *given = model.some_deed(chance, board)
                flat = [given[0], *given[1]] if deed == "lay" else given
                self.assertEqual(self.outcome(desk.say, " ".join(map(str, [deed, *flat]))),
                                 self.outcome(getattr(table, deed), *given) or "ok")
                self.as_the_table(desk, table)

    def outcome(self, call, *given):
        """What is told, or the class of the refusal."""
        try:
            return call(*given)
        except PinError as refusal:
            return type(refusal)

    def as_the_table(self, desk, table):
        board, where = table.board(), table.where()
        self.assertEqual(desk.say("show"), board_text(board))
        self.assertEqual(desk.say("rounds"), str(len(rounds(board))))
        number = self.outcome(table.number)
        self.assertEqual(self.outcome(desk.say, "number"), number if where is None else str(number))
        if where is None:
            self.assertEqual(desk.say("where"), "none")
        elif where[0] == "laid":
            self.assertEqual(desk.say("where"), f"{where[1]} {where[2][0]} {where[2][1]}")
        else:
            self.assertEqual(desk.say("where"), "{} {} {}".format(*where[1]))
            self.assertEqual(desk.say("turns"), turning(board, where[1]))
            self.assertEqual(desk.say("pins"), " ".join(str(pin) for pin in pins_of(board, where[1])))

    def test_any_lines_one_after_another(self):
        chance = random.Random(101)
        found = set()
        for _ in range(12):
            desk, kept = Desk(), ModelDesk()
            for _ in range(150):
                line = self.some_line(chance, kept.table.board)
                due = kept.say(line)
                self.assertEqual(repr(self.outcome(desk.say, line)), repr(due), line)
                if isinstance(due, type):
                    found.add(due)
                    self.assertEqual(told(desk), [kept.say(question) for question in QUESTIONS])
        self.assertEqual(found, {NoText, NoLine, NoPin, NoLook, NoNumber, NotLaid, NoDeed})

    def some_line(self, chance, board):
        """A line, at random: a deed, a question, a board's text, or such a one but for a sign."""
        deed, *given = model.some_deed(chance, board)
        flat = [given[0], *given[1]] if deed == "lay" else given
        line = chance.choice((
            " ".join(map(str, [deed, *flat])), " ".join(map(str, [deed, *flat])), chance.choice(QUESTIONS),
            "board " + kit.text_of(chance.choice(MIXED)) if chance.random() < 0.1 else "where",
        ))
        if chance.random() < 0.15:
            at = chance.randrange(len(line) + 1)
            return line[:at] + chance.choice(("", " ", "0", "-", "1", "x", "S", "\t", "\n")) + line[at + 1:]
        return line

    def test_no_desk_hangs_on_another(self):
        one, other = Desk(), Desk()
        said(one, "turn 0", "lay 1 1 1000")
        self.assertEqual(told(other), told(Desk()))
        self.refused(other, "undo", NoDeed)

    def test_the_same_question_has_the_same_answer_and_is_no_deed(self):
        desk = desk_at(MIXED[2], "lay 0 1000 1", "beats 2")
        self.assertEqual(told(desk), told(desk))
        said(desk, "undo", "undo")
        self.refused(desk, "undo", NoDeed)

    def test_a_new_board_is_a_new_table(self):
        desk = desk_at(SMALL, "lay 0 1000 1", "turn 1", "board " + kit.text_of(SMALL))
        self.assertEqual(told(desk), told(desk_at(SMALL)))
        self.refused(desk, "undo", NoDeed)


class Refusals(Desks):
    def desks(self, board=SMALL):
        """Desks without a line, with one laid, and with one that has met a pin."""
        return desk_at(board), desk_at(board, "lay 0 1000 1"), desk_at(board, "lay 0 1000 1", "beats 3", "turn 1")

    def test_what_is_no_text(self):
        for desk in self.desks():
            for thing in (*kit.STRANGE, (), 0, 1, ["show"], ("show",), {"show": 1}, b"show", ["turn", 1], ("turn", 1)):
                self.refused(desk, thing, NoLine)

    def test_what_is_no_such_line(self):
        for desk in self.desks():
            for line in (
                "", " ", "  ", "\n", "\t", "ok", "none", "help", "0", "1 2", "board", "boards", "board\n", "board\t",
                "board,", "BOARD 0,0< 40,3< 11,29<", "Board 0,0< 40,3< 11,29<", " board 0,0< 40,3< 11,29<",
                "board\t0,0< 40,3< 11,29<", "board0,0< 40,3< 11,29<", "0,0< 40,3< 11,29<", "shows", "sho", "show where",
                "undo undo", "undo 1", "away 0", "show 0", "where 0", "number 0", "rounds 3", "turns 0", "pins 0",
                "lay", "lay 0", "lay 0 1000", "lay 0 1000 1 0", "lay 0 1000 1 left", "lay 0 (1000, 1)", "lay 0 1000,1",
                "turn", "turn 0 1", "turn left", "beats", "beats 1 1", "beats one", "beats many", "lay PIN X Y",
                "number_of", "twin", "len", "repr", "lay-0 1000 1", "turn0", "turn,0", "turn=0",
            ):
                self.refused(desk, line, NoLine)

    def test_blanks_and_capitals(self):
        for desk in self.desks():
            for line in ("lay 0 1000 1", "turn 0", "beats 1", "away", "undo", *QUESTIONS):
                for wrong in (
                    " " + line, line + " ", "  " + line, line + "  ", line + "\n", "\n" + line, line + "\t",
                    line.upper(), line.capitalize(), line + " 0", line + " x", line + ".", line + line,
                ):
                    self.refused(desk, wrong, NoLine)
                if " " in line:
                    self.refused(desk, line.replace(" ", "  "), NoLine)
                    self.refused(desk, line.replace(" ", "  ", 1), NoLine)
                    self.refused(desk, line.replace(" ", "\t"), NoLine)

    def test_what_is_no_number(self):
        wrong = (
            "", "-0", "00", "01", "-01", "-00", "+1", "+0", "--1", "-", "1-", "1.0", "1.", "1e3", "0x1", "1_0", "1,0",
            "true", "True", "None", "x", "0000000000001", "1000000000000", "-1000000000000", "9999999999999",
            "1" * 1000, *kit.SIGNS_LIKE_FIGURES,
        )
        for desk in self.desks():
            for word in wrong:
                for line in (f"lay {word} 1000 1", f"lay 0 {word} 1", f"lay 0 1000 {word}", f"turn {word}",
                             f"beats {word}", f"lay {word} {word} {word}"):
                    self.refused(desk, line, NoLine)

    def test_twelve_figures(self):
        for word in ("999999999999", "-999999999999", "100000000001", "-100000000001"):
            desk = desk_at(SMALL)
            self.assertEqual(said(desk, f"lay 0 {word} 1", "where"), ["ok", f"0 {word} 1"])
            self.assertEqual(said(desk, f"lay 0 1 {word}", "where"), ["ok", f"0 1 {word}"])
            self.refused(desk, f"turn {word}", NoPin)
            self.refused(desk, f"lay {word} 1 1000", NoPin)
        desk = desk_at(SMALL, "lay 0 1000 1")
        self.assertEqual(said(desk, "beats 999999999999", "where"), ["ok", "0 2 ahead"])
        self.refused(desk, "beats -999999999999", NoNumber)

    def test_refused_as_at_a_table(self):
        for desk in self.desks():
            for pin in ("3", "-1", "99", "999999999999"):
                self.refused(desk, f"turn {pin}", NoPin)
                self.refused(desk, f"lay {pin} 1000 1", NoPin)
                self.refused(desk, f"lay {pin} 0 0", NoPin)
            for look in ("0 0", "40 3", "-40 -3", "11 29", "-29 26", "58 -52"):
                self.refused(desk, f"lay 0 {look}", NoLook)
            self.refused(desk, "beats -1", NoNumber)
        desk = desk_at(SMALL)
        self.refused(desk, "beats 0", NotLaid)
        self.refused(desk, "beats 1", NotLaid)
        self.refused(desk, "away", NotLaid)
        self.refused(desk, "undo", NoDeed)

    def test_number_turns_and_pins_while_no_line_lies_or_has_met_a_pin(self):
        desk = desk_at(SMALL)
        for line in ("number", "turns", "pins"):
            self.refused(desk, line, NotLaid)
        said(desk, "lay 0 1000 1", "beats 0")
        self.assertEqual(desk.say("number"), "1")
        for line in ("turns", "pins"):
            self.refused(desk, line, NotLaid)
        self.assertEqual(said(desk, "beats 1", "turns", "pins"), ["ok", "left", "0 1 2"])
        said(desk, "undo")
        for line in ("turns", "pins"):
            self.refused(desk, line, NotLaid)
        said(desk, "away")
        for line in ("number", "turns", "pins"):
            self.refused(desk, line, NotLaid)

    def test_no_boards_text(self):
        texts = [text for text in kit.wrong_texts() if isinstance(text, str)]
        self.assertGreater(len(texts), 50)
        right = kit.text_of(FIRST)
        for desk in self.desks():
            for text in ("", " ", "  ", " " + right, right + " ", "\n", "show", "board " + right, *texts):
                self.refused(desk, "board " + text, NoText)

    def test_a_board_that_is_refused_leaves_the_deeds(self):
        desk = desk_at(SMALL, "turn 0", "lay 0 1000 1")
        self.refused(desk, "board ", NoText)
        self.refused(desk, "board 0,0< 40,3<", NoText)
        self.assertEqual(said(desk, "undo", "undo", "show"), ["ok", "ok", kit.text_of(SMALL)])
        self.refused(desk, "undo", NoDeed)

    def test_no_line_is_refused_as_no_board(self):
        for line in ("board", "board ", "board x", "board 0,0<"):
            with self.assertRaises(PinError) as caught:
                Desk().say(line)
            self.assertNotIsInstance(caught.exception, NoBoard)


if __name__ == "__main__":
    unittest.main()
