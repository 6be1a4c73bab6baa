"""[23]: requests and replies, beside a Board that is asked by hand; lines spoilt word by word."""

import random
import re
import unittest
from fractions import Fraction
from math import gcd

from screwshop.board import Board
from screwshop.desk import is_request, replies
from screwshop.errors import BadLine, NoClosing, NothingDone, Unfit
from tests.support import listed
from tests.test_board import LATHES, some_deed
from tests.test_lines import pair, told
from tests.test_texts import spoilt_texts, word

LATHE, LENGTH = LATHES[0], (24, 1)
REQUESTS = ["spin 1", "spin -1/3", "spin 0", "spin 9999999999999/2", "spin -1/9999999999999", "carry 25", "carry -1", "carry 3/2", "cut 12 2", "cut -7/2 1",
            "cut 0 9999999999999", "ring 1", "ring 20", "plane 5/4 3", "plane 0 1", "undo", "redo", "stand", "dial", "depth", "grooves"]
NUMBER = "(?:0|[1-9][0-9]{0,12})"


def is_value(text, kind):
    if kind == "D":
        return bool(re.fullmatch("[1-9][0-9]{0,12}", text, re.ASCII))
    found = re.fullmatch("(-?)(" + NUMBER + ")(?:/(" + NUMBER + "))?", text, re.ASCII)
    if not found or (found[1] and found[2] == "0"):
        return False
    return found[3] is None or (int(found[3]) > 1 and gcd(int(found[2]), int(found[3])) == 1)


def is_request_by_hand(line):
    words = line.split(" ")
    if words[0] in ("undo", "redo", "stand", "dial", "depth", "grooves"):
        return len(words) == 1
    kinds = {"spin": "F", "carry": "F", "cut": "FD", "ring": "D", "plane": "FD"}.get(words[0])
    return kinds is not None and len(words) == 1 + len(kinds) and all(map(is_value, words[1:], kinds))


def reply_by_hand(board, line):
    words = line.split(" ")
    try:
        if words[0] == "stand":
            return " ".join(map(word, board.stand_now()))
        if words[0] == "dial":
            shown, mark = board.dial_now()
            return word(shown) + " " + ("-" if mark is None else str(mark))
        if words[0] == "depth":
            return "%d" % board.depth_here()
        if words[0] == "grooves":
            return "%d" % len(board.bar_now()[1])
        if words[0] in ("undo", "redo"):
            getattr(board, words[0])()
        elif words[0] == "ring":
            board.do(("ring", int(words[1])))
        else:
            board.do((words[0], pair(Fraction(words[1]))) + tuple(map(int, words[2:])))
    except (Unfit, NoClosing, NothingDone) as error:
        return "no " + error.__class__.__name__
    return "done"


def line_of(deed):
    return " ".join([own if isinstance(own, str) else str(own) if isinstance(own, int) else word(own) for own in deed])


class Requests(unittest.TestCase):
    def test_requests(self):
        for line in REQUESTS:
            self.assertIs(is_request(line), True, line)
            self.assertIs(is_request(line=line), True)

    def test_lines_that_are_none_by_one_flaw(self):
        some = {True: 0, False: 0}
        for line in REQUESTS:
            for other in spoilt_texts(line):
                some[is_request_by_hand(other)] += 1
                self.assertIs(is_request(other), is_request_by_hand(other), repr(other))
        self.assertTrue(min(some.values()) > 50, some)

    def test_strange_lines(self):
        for line in ["", " ", "\n", "undo\n", "\nundo", "undo\nredo", "undo ", " undo", "Undo", "undo undo", "undo 1", "stand 0", "spin", "spin 1 1", "spin  1", "spin\t1", "spin 1\n",
                     "spin +1", "spin 01", "spin -0", "spin 00", "spin 1/1", "spin 2/4", "spin 0/3", "spin 0/2", "spin 1/0", "spin 1/-2", "spin -1/-2", "spin --1", "spin 1/2/3", "spin /2",
                     "spin 1/", "spin -", "spin 1/02", "spin 10000000000000", "spin -10000000000000", "spin 1/10000000000000", "spin 1.5", "spin 1e3", "spin 1_0", "spin \u0663", "spin \u00b2",
                     "cut 1", "cut 1 0", "cut 1 -1", "cut 1 1/2", "cut 1 01", "cut 1 10000000000000", "cut 1 1 1", "cut 1 2/2", "ring", "ring 0", "ring -1", "ring 1/2", "ring 1 1", "plane 1", "plane 1 0",
                     "deeds", "do spin 1", "no", "done", "spin " + "9" * 5000, "ring " + "1" * 5000, "spin 1/" + "3" * 5000, "spin 1 2", "carry", "carry one", "carry ", "ring\u00a01"]:
            self.assertIs(is_request(line), False, repr(line))

    def test_figures(self):
        for many, so in [(1, True), (13, True), (14, False), (400, False)]:
            for line in ["spin 9", "spin -9", "spin 1/9", "spin -1/9", "ring 9", "cut 1 9", "cut 9 1", "plane 1/9 9", "carry 9"]:
                self.assertIs(is_request(line.replace("9", "9" * many)), so, line)


class Replies(unittest.TestCase):
    def test_beside_a_board(self):
        chance, some = random.Random(24), {}
        for number in range(40):
            lathe = LATHES[number % 4]
            length = pair(3 * told(lathe[0]))
            lines = []
            for _ in range(40):
                bare = chance.choice(["undo", "redo", "stand", "dial", "depth", "grooves", "", "", "", "", ""])
                lines.append(bare if bare else line_of(some_deed(chance, lathe, length)))
            self.assertTrue(all(map(is_request_by_hand, lines)))
            board = Board(lathe, length)
            by_hand = [reply_by_hand(board, line) for line in lines]
            self.assertEqual(replies(lathe, length, "\n".join(lines)), by_hand)
            self.assertEqual(replies(text="\n".join(lines), length=listed(length), lathe=listed(lathe)), by_hand)
            for line, reply in zip(lines, by_hand):
                own = (line.split(" ")[0], reply if reply.startswith(("no", "done")) else "told")
                some[own] = some.get(own, 0) + 1
        for own in [("undo", "no NothingDone"), ("redo", "no NothingDone"), ("undo", "done"), ("redo", "done"), ("dial", "no NoClosing"), ("dial", "told"), ("carry", "no Unfit"),
                    ("cut", "no Unfit"), ("cut", "no NoClosing"), ("cut", "done"), ("plane", "no Unfit"), ("plane", "done"), ("ring", "done"), ("spin", "done"), ("grooves", "told")]:
            self.assertIn(own, some)

    def test_each_request(self):
        text = "stand\ndial\ndepth\ngrooves\nundo\nredo\nring 2\ndepth\nspin 1/3\ndial\nplane 12 1\nstand\ngrooves\ncut 0 1\nundo\ndepth\nredo\ncarry 49/2\ncarry 24\nplane 24 1\nstand"
        self.assertEqual(replies(LATHE, LENGTH, text),
                         ["0 0", "0 0", "0", "0", "no NothingDone", "no NothingDone", "done", "2", "done", "no NoClosing", "done", "1/3 12", "2", "no NoClosing",
                          "done", "2", "done", "no Unfit", "done", "no Unfit", "1/3 24"])

    def test_no_lines(self):
        self.assertEqual(replies(LATHE, LENGTH, ""), [])
        self.assertIsNot(replies(LATHE, LENGTH, ""), replies(LATHE, LENGTH, ""))

    def test_bad_lines_come_ahead_of_all_else(self):
        for text, line in [("\n", 0), ("undo\n", 1), ("\nundo", 0), ("undo\n\nundo", 1), ("undo\n\n", 1), ("spin 1\nspin 2/4\nspin x", 1), ("cut 99 1\ncut 0 1\nundo\nring 0", 3),
                           (" ", 0), ("stand\nspin 1 \nstand", 1), ("undo\r\nundo", 0), ("undo\x0bundo", 0), ("undo\nundo\x0c", 1), ("undo\u2028undo", 0)]:
            with self.assertRaises(BadLine) as caught:
                replies(LATHE, LENGTH, text)
            self.assertEqual(caught.exception.number, line, repr(text))

    def test_each_call_has_a_new_board(self):
        for _ in range(2):
            self.assertEqual(replies(LATHE, LENGTH, "ring 1\ngrooves"), ["done", "1"])


if __name__ == "__main__":
    unittest.main()
