"""[100]: texts of boards, and back."""

import random
import re
import unittest

import kit
import oracle
from kit import BOARDS, LEFT, MIXED, RIGHT, SMALL
from waypins.boards import is_board, with_ways
from waypins.errors import NoBoard, NoText
from waypins.texts import board_text, read_board

PIN = "(0|[1-9][0-9]?),(0|[1-9][0-9]?)([<>])"
WRITTEN = re.compile(f"{PIN}( {PIN})*")


def written(text):
    """The board that the text writes, None where it writes none."""
    if not WRITTEN.fullmatch(text):
        return None
    board = tuple((int(x), int(y), LEFT if sign == "<" else RIGHT) for x, y, sign in re.findall(PIN, text))
    return board if 3 <= len(board) <= 8 and oracle.fits(board) else None


def one_sign_off(text):
    """All texts that differ in one sign: left out, put in, or another one."""
    found = []
    for at in range(len(text) + 1):
        found.append(text[:at] + text[at + 1:])
        for sign in "0159,<> +-.\n":
            found += [text[:at] + sign + text[at:], text[:at] + sign + text[at + 1:]]
    return found


class BoardText(unittest.TestCase):
    def test_the_one_of_the_document(self):
        self.assertEqual(repr(board_text(SMALL)), repr("0,0< 40,3< 11,29>"))

    def test_places_of_one_figure_and_of_two(self):
        board = ((0, 9, RIGHT), (10, 99, LEFT), (99, 0, RIGHT), (5, 50, RIGHT))
        self.assertEqual(board_text(board), "0,9> 10,99< 99,0> 5,50>")

    def test_many_boards(self):
        for board in BOARDS:
            self.assertEqual(repr(board_text(board)), repr(kit.text_of(board)))

    def test_what_is_no_board(self):
        for board in kit.wrong_boards():
            with self.subTest(board), self.assertRaises(NoBoard):
                board_text(board)


class ReadBoard(unittest.TestCase):
    def test_the_one_of_the_document(self):
        self.assertEqual(repr(read_board("0,0< 40,3< 11,29>")), repr(SMALL))

    def test_many_boards(self):
        for board in BOARDS:
            told = read_board(kit.text_of(board))
            self.assertEqual(repr(told), repr(board))
            self.assertIs(is_board(told), True)

    def test_there_and_back(self):
        for places in kit.PLACES[:4] + kit.TIGHT:
            board = kit.pinned(places, kit.WAYS[0])
            for pins in kit.subsets(len(board)):
                one = with_ways(board, pins)
                self.assertEqual(repr(read_board(board_text(one))), repr(one))
        self.assertEqual(len({board_text(board) for board in BOARDS}), len(set(BOARDS)))

    def test_what_writes_none(self):
        for text in kit.wrong_texts():
            with self.subTest(text), self.assertRaises(NoText):
                read_board(text)

    def test_texts_that_are_one_sign_off(self):
        counts = {True: 0, False: 0}
        for board in (SMALL, MIXED[0], MIXED[2], kit.pinned(kit.TIGHT[0], kit.WAYS[1])):
            for text in one_sign_off(kit.text_of(board)):
                self.told_or_refused(text, counts)
        self.assertGreater(min(counts.values()), 200)

    def test_any_texts_of_such_signs(self):
        chance = random.Random(100)
        counts = {True: 0, False: 0}
        for _ in range(3000):
            words = [
                f"{chance.choice((0, 7, 38, 99, 5, 1))},{chance.randint(0, 101)}{chance.choice('<>')}"
                for _ in range(chance.randint(1, 5))
            ]
            self.told_or_refused(" ".join(words), counts)
        self.assertGreater(min(counts.values()), 100)

    def told_or_refused(self, text, counts):
        expected = written(text)
        counts[expected is not None] += 1
        if expected is None:
            with self.subTest(text), self.assertRaises(NoText):
                read_board(text)
        else:
            self.assertEqual(repr(read_board(text)), repr(expected), text)


if __name__ == "__main__":
    unittest.main()
