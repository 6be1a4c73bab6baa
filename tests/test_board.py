"""[23]: Boards, beside one that is kept by hand, DEED by DEED."""

import copy
import random
import unittest
from fractions import Fraction

from screwshop.bars import depth_at, is_bar, is_plain, plain_bar
from screwshop.board import Board
from screwshop.dials import closings_apart, first_at_mark, how_many_lines, line_at_count
from screwshop.errors import NoClosing, NothingDone, Unfit
from screwshop.passes import bar_after, closes_at, cut_groove, dial_shows, next_closing, run_out
from tests.support import listed
from tests.test_lines import pair, told

O, HALF, ONE, TWO = (0, 1), (1, 2), (1, 1), (2, 1)
LATHE, LENGTH = ((6, 1), (((20, 30),), False), (4, 2)), (24, 1)
LATHES = [LATHE, ((2, 1), (((3, 2),), True), (4, 4)), ((1, 4), ((), False), (16, 3)), ((3, 2), (((40, 10), (9, 6)), False), (12, 5))]


def ratio(lathe):
    found = Fraction(1)
    for driver, driven in lathe[1][0]:
        found *= Fraction(driver, driven)
    return -found if lathe[1][1] else found


class ByHand:
    """[3] and [23], line by line."""

    def __init__(self, lathe, length):
        self.lathe, self.length = lathe, told(length)
        self.turned, self.place, self.grooves, self.line, self.undone = Fraction(0), Fraction(0), [], [], []

    def count(self):
        return ratio(self.lathe) * self.turned - self.place / told(self.lathe[0])

    def do(self, deed):
        """The name of the error, or None."""
        word = deed[0]
        if word in ("carry", "cut", "plane"):
            end = told(deed[1])
            if not 0 <= end <= self.length or (word != "carry" and end == self.place):
                return "Unfit"
        if word == "cut" and self.count().denominator != 1:
            return "NoClosing"
        before = (self.turned, self.place, list(self.grooves))
        if word == "spin":
            self.turned += told(deed[1])
        elif word == "carry":
            self.place = told(deed[1])
        elif word == "ring":
            self.leave(("ring", pair(self.place)), self.place, self.place, deed[1])
        elif word == "plane":
            self.leave(("flute", pair(self.turned % 1)), self.place, told(deed[1]), deed[2])
            self.place = told(deed[1])
        else:
            end, lead = told(deed[1]), told(self.lathe[0]) * ratio(self.lathe)
            self.leave(("lead", pair(lead), pair((self.place - lead * self.turned) % abs(lead))), self.place, end, deed[2])
            self.turned += (end - self.place) / lead
            self.place = end
        self.line.append((deed, before))
        self.undone = []
        return None

    def leave(self, line, start, end, depth):
        self.grooves.append((line, pair(min(start, end)), pair(max(start, end)), depth))

    def undo(self):
        deed, before = self.line.pop()
        self.undone.append((deed, (self.turned, self.place, list(self.grooves))))
        self.turned, self.place, self.grooves = before[0], before[1], list(before[2])
        return deed

    def redo(self):
        deed, behind = self.undone.pop()
        self.line.append((deed, (self.turned, self.place, list(self.grooves))))
        self.turned, self.place, self.grooves = behind[0], behind[1], list(behind[2])
        return deed

    def bar(self):
        return plain_bar((pair(self.length), tuple(sorted(set(self.grooves)))))

    def dial(self):
        count = self.count()
        if count.denominator != 1:
            return None
        shown = count / self.lathe[2][0] % 1
        marks = [own for own in range(self.lathe[2][1]) if Fraction(own, self.lathe[2][1]) == shown]
        return (pair(shown), marks[0] if marks else None)


def some_deed(chance, lathe, length):
    grid = [pair(Fraction(own, 2)) for own in range(-1, int(2 * told(length)) + 2)]
    word = chance.choice(["spin", "carry", "cut", "cut", "cut", "ring", "plane"])
    if word == "spin":
        return (word, pair(chance.choice([1, -1, 2, Fraction(1, 3)]) / ratio(lathe) * chance.choice([1, 1, 1, Fraction(1, 2)])))
    if word == "carry":
        return (word, pair(told(lathe[0]) * chance.randrange(-1, 4)) if chance.randrange(3) else chance.choice(grid))
    depth = chance.randrange(1, 5)
    return (word, depth) if word == "ring" else (word, pair(told(lathe[0]) * chance.randrange(0, 4)) if chance.randrange(3) else chance.choice(grid), depth)


class Beside(unittest.TestCase):
    def test_deeds_beside_one_kept_by_hand(self):
        chance, some = random.Random(23), {}
        for number in range(60):
            lathe, length = LATHES[number % 4], pair(3 * told(LATHES[number % 4][0]) + chance.choice([0, Fraction(1, 2)]))
            board, hand = Board(lathe, length), ByHand(lathe, length)
            for _ in range(25):
                kind = self.step(board, hand, chance)
                some[kind] = some.get(kind, 0) + 1
                self.check(board, hand)
        self.assertTrue(len(some) >= 12 and min(some.values()) > 4, some)

    def step(self, board, hand, chance):
        way = chance.randrange(8)
        if way < 2:
            call, line, by_hand = [(board.undo, hand.line, hand.undo), (board.redo, hand.undone, hand.redo)][way]
            if not line:
                self.assertRaises(NothingDone, call)
                return ("nothing", way)
            deed = call()
            self.assertEqual(repr(deed), repr(by_hand()))
            return ("done", way)
        deed = some_deed(chance, hand.lathe, pair(hand.length))
        refused = hand.do(deed)
        call = board.do
        if deed[0] == "cut" and way < 5:
            def call(deed):
                return board.cut_to(deed[1], deed[2])
        if refused is None:
            self.assertIsNone(call(listed(deed) if way == 7 else deed))
        else:
            self.assertRaises({"Unfit": Unfit, "NoClosing": NoClosing}[refused], call, deed)
        return (deed[0], refused)

    def check(self, board, hand):
        self.assertEqual(board.stand_now(), (pair(hand.turned), pair(hand.place)))
        bar = board.bar_now()
        self.assertTrue(is_bar(bar) and is_plain(bar))
        self.assertEqual(bar, hand.bar())
        self.assertEqual(board.deeds(), [deed for deed, _ in hand.line])
        self.assertEqual(len(board), len(hand.line))
        dial = hand.dial()
        if dial is None:
            self.assertRaises(NoClosing, board.dial_now)
        else:
            self.assertEqual(board.dial_now(), dial)
        self.assertEqual(board.depth_here(), depth_at(hand.bar(), (pair(hand.place), pair(hand.turned % 1))))


class Deeds(unittest.TestCase):
    def test_at_first(self):
        board = Board(LATHE, LENGTH)
        self.assertEqual((board.bar_now(), board.stand_now(), board.dial_now(), board.depth_here(), board.deeds(), len(board)),
                         ((LENGTH, ()), (O, O), (O, 0), 0, [], 0))
        self.assertRaises(NothingDone, board.undo)
        self.assertRaises(NothingDone, board.redo)

    def test_by_names(self):
        board = Board(length=list(LENGTH), lathe=listed(LATHE))
        self.assertIsNone(board.cut_to(depth=2, end=[12, 1]))
        self.assertIsNone(board.do(deed=["carry", [0, 1]]))
        self.assertEqual(repr(board.deeds()), repr([("cut", (12, 1), 2), ("carry", (0, 1))]))
        self.assertEqual(repr(board.bar_now()), repr((LENGTH, ((("lead", (4, 1), O), O, (12, 1), 2),))))
        self.assertEqual(repr(board.undo()), repr(("carry", O)))
        self.assertEqual(len(board), 1)

    def test_which_of_two_errors_comes_first(self):
        board = Board(LATHE, LENGTH)
        board.do(("spin", ONE))
        for end in ((25, 1), (-1, 24), O):
            self.assertRaises(Unfit, board.cut_to, end, 1)
            self.assertRaises(Unfit, board.do, ("plane", end, 1))
        self.assertRaises(NoClosing, board.cut_to, (24, 1), 1)
        self.assertRaises(Unfit, board.do, ("carry", (49, 2)))
        self.assertRaises(Unfit, board.do, ("carry", (-1, 2)))
        self.assertIsNone(board.do(("carry", (24, 1))))
        self.assertIsNone(board.do(("carry", O)))
        self.assertIsNone(board.do(("plane", LENGTH, 1)))

    def test_a_refused_deed_changes_nothing_and_keeps_what_was_undone(self):
        board = Board(LATHE, LENGTH)
        for deed in [("cut", (12, 1), 2), ("spin", HALF), ("ring", 3)]:
            board.do(deed)
        self.assertEqual((board.undo(), board.undo()), (("ring", 3), ("spin", HALF)))
        stood = (board.bar_now(), board.stand_now(), board.deeds())
        for deed in [("carry", (25, 1)), ("cut", (12, 1), 1), ("plane", (-1, 1), 1), ("cut", (99, 1), 1)]:
            self.assertRaises(Unfit, board.do, deed)
            self.assertEqual((board.bar_now(), board.stand_now(), board.deeds()), stood)
        self.assertEqual((board.redo(), board.redo()), (("spin", HALF), ("ring", 3)))
        self.assertRaises(NoClosing, board.cut_to, O, 1)
        self.assertRaises(NothingDone, board.redo)
        self.assertEqual(board.undo(), ("ring", 3))
        self.assertRaises(NoClosing, board.cut_to, O, 1)
        self.assertEqual(board.redo(), ("ring", 3))

    def test_a_new_deed_drops_what_was_undone(self):
        board = Board(LATHE, LENGTH)
        board.do(("spin", ONE))
        board.undo()
        board.do(("spin", TWO))
        self.assertRaises(NothingDone, board.redo)
        # also if it is the one that was undone; one put back does not drop the others
        for deed in [("ring", 1), ("carry", ONE)]:
            board.do(deed)
        board.undo(), board.undo()
        board.redo()
        self.assertEqual(board.redo(), ("carry", ONE))
        board.undo(), board.undo()
        board.do(("ring", 1))
        self.assertRaises(NothingDone, board.redo)

    def test_a_cut_and_one_back(self):
        for lathe in LATHES:
            for start in (O, pair(told(lathe[0]) * 2)):
                for end in (pair(told(lathe[0]) * Fraction(5, 3)), pair(told(lathe[0]) * 3)):
                    board = Board(lathe, pair(3 * told(lathe[0])))
                    board.do(("carry", start))
                    stood, shown = board.stand_now(), board.dial_now()
                    board.cut_to(end, 2)
                    self.assertEqual(board.dial_now(), shown)
                    one = board.bar_now()
                    board.cut_to(start, 2)
                    self.assertEqual((board.bar_now(), board.stand_now(), board.dial_now()), (one, stood, shown))
                    self.assertEqual(len(one[1]), 1)

    def test_grooves_over_one_another(self):
        board = Board(((1, 1), ((), False), (1, 1)), (4, 1))
        for deed in [("cut", (3, 1), 2), ("carry", ONE), ("cut", (4, 1), 1), ("carry", ONE), ("cut", TWO, 5), ("ring", 9), ("ring", 4)]:
            board.do(deed)
        line = ("lead", ONE, O)
        self.assertEqual(board.bar_now()[1], ((line, O, ONE, 2), (line, ONE, TWO, 5), (line, TWO, (3, 1), 2), (line, (3, 1), (4, 1), 1), (("ring", TWO), TWO, TWO, 9)))
        self.assertEqual(board.depth_here(), 9)

    def test_marks_met_and_not(self):
        board = Board(((1, 1), ((), False), (6, 4)), (9, 1))
        shown = []
        for _ in range(7):
            shown.append(board.dial_now())
            board.do(("spin", ONE))
        self.assertEqual(shown, [(O, 0), ((1, 6), None), ((1, 3), None), (HALF, 2), ((2, 3), None), ((5, 6), None), (O, 0)])
        board.do(("spin", HALF))
        self.assertRaises(NoClosing, board.dial_now)

    def test_as_the_functions_of_passes_and_bars_say(self):
        chance = random.Random(6)
        for lathe in LATHES:
            board, cuts = Board(lathe, pair(3 * told(lathe[0]))), []
            for _ in range(8):
                board.do(("carry", pair(told(lathe[0]) * chance.randrange(3))))
                turned, place = board.stand_now()
                closing = told(next_closing(lathe, turned, place)) + chance.randrange(-3, 4) / ratio(lathe)
                board.do(("spin", pair(closing - told(turned))))
                turned = board.stand_now()[0]
                end = pair(told(lathe[0]) * chance.choice([Fraction(1, 2), Fraction(5, 2), 3]))
                self.assertEqual(board.dial_now(), dial_shows(lathe, turned, place))
                closes_at(lathe, turned, place)
                cuts.append((turned, place, end, chance.randrange(1, 4)))
                board.cut_to(end, cuts[-1][3])
                self.assertEqual(board.stand_now(), (run_out(lathe, turned, place, end), end))
                groove = cut_groove(lathe, cuts[-1])
                self.assertGreaterEqual(depth_at(board.bar_now(), (end, pair(told(board.stand_now()[0]) % 1))), groove[3])
            self.assertEqual(board.bar_now(), bar_after(lathe, (pair(3 * told(lathe[0])), ()), tuple(cuts)))


    def test_as_the_functions_of_dials_say(self):
        met = {True: 0, False: 0}
        for lathe in LATHES:
            apart, teeth = closings_apart(lathe), lathe[2][0]
            board = Board(lathe, lathe[0])
            for _ in range(2 * teeth):
                turned, place = board.stand_now()
                count, (shown, mark) = closes_at(lathe, turned, place), board.dial_now()
                self.assertEqual(told(shown) * teeth % teeth, count % teeth)
                marks = [own for own in range(lathe[2][1]) if first_at_mark(lathe, own) == count % teeth]
                self.assertEqual(marks, [] if mark is None else [mark])
                met[mark is None] += 1
                board.cut_to(lathe[0] if place == O else O, 1)
                self.assertIn(line_at_count(lathe, count), [groove[0] for groove in board.bar_now()[1]])
                board.do(("spin", apart))
            self.assertEqual(len(board.bar_now()[1]), min(how_many_lines(lathe), 2 * teeth))
        self.assertTrue(min(met.values()) > 10, met)


class Objects(unittest.TestCase):
    def test_equal_by_their_lines_alone(self):
        one, other = Board(LATHE, LENGTH), Board(LATHE, LENGTH)
        self.assertTrue(one == other and not one != other)
        one.do(("spin", ONE))
        self.assertTrue(one != other and not one == other)
        one.undo()
        self.assertTrue(one == other)
        other.do(("ring", 1))
        one.do(("ring", 1))
        self.assertTrue(one == other)
        # the same BAR by another line
        other.do(("ring", 1))
        self.assertEqual(one.bar_now(), other.bar_now())
        self.assertFalse(one == other)

    def test_unlike_lathes_and_lengths(self):
        board = Board(LATHE, LENGTH)
        self.assertFalse(board == Board(LATHE, (23, 1)))
        self.assertFalse(board == Board(((6, 1), (((40, 60),), False), (4, 2)), LENGTH))
        self.assertFalse(board == Board(((6, 1), (((20, 30),), False), (4, 4)), LENGTH))
        self.assertTrue(board == Board(listed(LATHE), [24, 1]))

    def test_beside_other_things(self):
        board = Board(LATHE, LENGTH)
        for thing in [None, 0, "", [], (), (LATHE, LENGTH), board.bar_now(), Board, object()]:
            self.assertFalse(board == thing)
            self.assertFalse(thing == board)
            self.assertTrue(board != thing)

    def test_len_and_iteration(self):
        board = Board(LATHE, LENGTH)
        for number in range(4):
            self.assertEqual(len(board), number)
            for call in (iter, list, tuple, sorted, lambda own: [part for part in own], lambda own: 1 in own):
                self.assertRaises(TypeError, call, board)
            board.do(("spin", ONE))

    def test_what_is_told_may_be_changed(self):
        board = Board(LATHE, LENGTH)
        board.cut_to((12, 1), 2)
        told_now = board.deeds()
        told_now.append(("ring", 1))
        told_now[0] = None
        self.assertEqual(board.deeds(), [("cut", (12, 1), 2)])
        self.assertIsNot(board.deeds(), board.deeds())
        for value in (board.bar_now(), board.stand_now(), board.dial_now(), board.undo()):
            self.assertNotIn("[", repr(value))

    def test_what_was_handed_in_may_be_changed(self):
        lathe, length, deed = listed(LATHE), [24, 1], ["cut", [12, 1], 2]
        kept = copy.deepcopy((lathe, length, deed))
        board = Board(lathe, length)
        board.do(deed)
        self.assertEqual((lathe, length, deed), kept)
        lathe[0][0], lathe[1][0][0][0], lathe[2][1] = 99, 7, 9
        length[0], deed[1][0], deed[2] = 1, 13, 20
        self.assertEqual((board.bar_now(), board.deeds(), board.dial_now()), ((LENGTH, ((("lead", (4, 1), O), O, (12, 1), 2),)), [("cut", (12, 1), 2)], (O, 0)))
        other = Board(LATHE, LENGTH)
        other.cut_to((12, 1), 2)
        self.assertTrue(board == other)
        deed = ["ring", 5]
        board.do(deed)
        deed[1] = 6
        board.undo()
        board.redo()
        self.assertEqual(board.deeds()[-1], ("ring", 5))

    def test_boards_do_not_share(self):
        one, other = Board(LATHE, LENGTH), Board(LATHE, LENGTH)
        one.do(("ring", 1))
        self.assertEqual((len(one), len(other), other.bar_now()), (1, 0, (LENGTH, ())))


if __name__ == "__main__":
    unittest.main()
