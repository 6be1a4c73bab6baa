"""[7]: passes, by the table of [3] row by row."""

import unittest
from fractions import Fraction

from screwshop.bars import alike_told, is_bar, plain_bar
from screwshop.errors import NoClosing, NoPaper, Unfit
from screwshop.passes import (are_cuts_for, bar_after, closes_at, cut_groove, cuts_for, dial_shows, is_lathe,
                              next_closing, place_behind, run_out, same_cuts, start_for, unmade)
from tests.support import STRANGE, spoiled
from tests.test_bars import BARE, BARS, KEY, NECK, O, ONE, ROD, SIX, THREAD, TWICE, TWO, UNEVEN
from tests.test_lines import lies_on, pair, told

TRAINS = [((), False), ((), True), (((3, 2),), False), (((20, 40), (30, 60)), True), (((40, 10),), True),
          (((5, 3), (7, 4)), False), (((6, 9),), False)]
DIALS = [(4, 4), (16, 3), (12, 8), (1, 1), (7, 24)]
PITCHES = [(2, 1), (1, 4), (7, 5)]
WORN = [((TWO, (3, 1)), ((4, 1), (5, 1))), (((1, 2), (1, 3)),), ((ONE, ONE), (ONE, (1, 2)), ((3, 4), (2, 1)))]
STRAIGHT = [(pitch, train, dial) for pitch in PITCHES for train in TRAINS for dial in DIALS[:2]]
LATHES = STRAIGHT + [(screw, train, dial) for screw in WORN for train in TRAINS[:5] for dial in DIALS]
SPINDLE = [O, ONE, (-2, 1), (1, 3), (2, 3), (-7, 4), (5, 2), (10 ** 6, 7)]
CARRIAGE = [O, (1, 3), (7, 5), (6, 1), (-3, 2), (11, 1), (-10 ** 6, 999)]
LATHE = (TWO, (((3, 2),), False), (4, 4))
BENT = (WORN[0], LATHE[1], LATHE[2])


def ratio_by_hand(lathe):
    ratio = Fraction(-1 if lathe[1][1] else 1)
    for driver, driven in lathe[1][0]:
        ratio = ratio * driver / driven
    return ratio


def bends_by_hand(screw):
    """The pairs (turns, place) where stretches of a worn SCREW end, as Fractions."""
    turns, place, bends = Fraction(0), Fraction(0), []
    for length, pitch in screw:
        turns, place = turns + told(length), place + told(length) * told(pitch)
        bends.append((turns, place))
    return bends


def led_to(screw, turns):
    """What the SCREW leads to, told as what its pitches add up to over the turns."""
    if isinstance(screw[0], int):
        return told(screw) * turns
    begin, place = Fraction(0), Fraction(0)
    if turns < 0:
        return turns * told(screw[0][1])
    for length, pitch in screw:
        place += told(pitch) * max(Fraction(0), min(turns, begin + told(length)) - begin)
        begin += told(length)
    return place + told(screw[-1][1]) * max(Fraction(0), turns - begin)


def turns_by_hand(screw, place):
    """The turns behind which the SCREW leads to place, from the two bends beside it."""
    if isinstance(screw[0], int):
        return place / told(screw)
    marks = [(Fraction(-10 ** 9), led_to(screw, Fraction(-10 ** 9))), (Fraction(0), Fraction(0))] + bends_by_hand(screw)
    marks.append((Fraction(10 ** 9), led_to(screw, Fraction(10 ** 9))))
    for (low, low_place), (high, high_place) in zip(marks, marks[1:]):
        if low_place <= place <= high_place:
            return low + (high - low) * (place - low_place) / (high_place - low_place)
    raise AssertionError("beyond what is looked at")


def count_by_hand(lathe, turned, place):
    count = ratio_by_hand(lathe) * told(turned) - turns_by_hand(lathe[0], told(place))
    return int(count) if count.denominator == 1 else None


def closings(lathes=None):
    """Passes (lathe, turned, place, K) of lathes whose nut closes, and not."""
    for lathe in lathes or LATHES:
        for place in CARRIAGE:
            closing = turns_by_hand(lathe[0], told(place)) / ratio_by_hand(lathe)
            for turned in SPINDLE + [pair(closing), pair(closing - 3 / abs(ratio_by_hand(lathe)))]:
                yield lathe, turned, place, count_by_hand(lathe, turned, place)


class Shapes(unittest.TestCase):
    def test_what_a_lathe_is(self):
        for lathe in LATHES + [((1, 10 ** 9), ((), False), (10 ** 9, 10 ** 9)),
                               (((ONE, ONE),) * 60, (((1, 1),) * 30, True), (1, 200))]:
            self.assertIs(is_lathe(lathe), True, lathe)

    def test_what_no_lathe_is(self):
        train, dial = LATHE[1:]
        for thing in STRANGE + [
                (O, train, dial), ((-1, 2), train, dial), ((2, 4), train, dial), (2, train, dial), ((), train, dial),
                (((TWO,),), train, dial), ((TWO, TWO, TWO), train, dial), (((O, TWO),), train, dial),
                (((TWO, O),), train, dial), (((TWO, (-1, 2)),), train, dial), ((((2, 4), ONE),), train, dial),
                ([(TWO, ONE)], train, dial), (([TWO, ONE],), train, dial), (((TWO, ONE), 1), train, dial),
                (((TWO, ONE, ONE),), train, dial), (TWO, train, (0, 4)), (TWO, train, (4, 0)), (TWO, train, (4,)),
                (TWO, train, (4, 4, 4)), (TWO, train, (True, 4)), (TWO, train, (4, True)), (TWO, train, [4, 4]),
                (TWO, train, (-4, 4)), (TWO, (((3, 2),), 0), dial), (TWO, (((3, 0),), False), dial), (TWO, train),
                (TWO, train, dial, dial), [TWO, train, dial], (TWO, [((3, 2),), False], dial), (TWO, None, dial)]:
            self.assertIs(is_lathe(thing), False, thing)
        for lathe in (LATHE, (WORN[0], (((3, 2), (4, 5)), True), (1, 1))):
            for thing in spoiled(lathe, doubled=False):
                self.assertIs(is_lathe(thing), False, thing)


class Passes(unittest.TestCase):
    def test_closes_at(self):
        closed = 0
        for lathe, turned, place, count in closings():
            if count is None:
                self.assertRaises(NoClosing, closes_at, lathe, turned, place)
            else:
                closed += 1
                self.assertEqual(closes_at(lathe, turned, place), count)
        self.assertGreater(closed, 500)

    def test_next_closing(self):
        for lathe, turned, place, _ in closings():
            closing = next_closing(lathe, turned, place)
            self.assertTrue(0 <= told(closing) - told(turned) < 1 / abs(ratio_by_hand(lathe)))
            self.assertIsNotNone(count_by_hand(lathe, closing, place))

    def test_dial_shows(self):
        met = set()
        for lathe, turned, place, count in closings():
            if count is None:
                self.assertRaises(NoClosing, dial_shows, lathe, turned, place)
            else:
                (teeth, marks), shown = lathe[2], Fraction(count, lathe[2][0]) % 1
                wanted = [mark for mark in range(marks) if Fraction(mark, marks) == shown]
                self.assertEqual(dial_shows(lathe, turned, place), (pair(shown), wanted[0] if wanted else None))
                met.add(bool(wanted))
        self.assertEqual(met, {True, False})

    def test_carriage(self):
        for lathe, turned, place, count in closings():
            if count is None:
                self.assertRaises(NoClosing, place_behind, lathe, turned, place, ONE)
                self.assertRaises(NoClosing, run_out, lathe, turned, place, ONE)
                continue
            self.assertEqual(place_behind(lathe, turned, place, turned), place)
            for t in SPINDLE:
                behind = led_to(lathe[0], ratio_by_hand(lathe) * told(t) - count)
                self.assertEqual(place_behind(lathe, turned, place, t), pair(behind))
                self.assertEqual(run_out(lathe, turned, place, pair(behind)), t)

    def test_worn_at_its_ends(self):
        lathe = (WORN[0], ((), False), (4, 4))
        places = [place_behind(lathe, O, O, (own, 1)) for own in (-2, -1, 0, 1, 2, 3, 6, 7, 10 ** 30)]
        self.assertEqual(places, [(own, 1) for own in (-6, -3, 0, 3, 6, 11, 26, 31, 5 * 10 ** 30 - 4)])
        self.assertEqual(run_out(lathe, O, O, (5 * 10 ** 30 - 4, 1)), (10 ** 30, 1))
        self.assertEqual(closes_at(lathe, ONE, (-6, 1)), 3)

    def test_groove_of_a_cut(self):
        for lathe, turned, place, count in closings(STRAIGHT):
            for out in (pair(told(place) + Fraction(5, 3)), pair(told(place) - 2)):
                if count is None:
                    self.assertRaises(NoClosing, cut_groove, lathe, (turned, place, out, 2))
                else:
                    self.check_groove(lathe, turned, place, out, count)

    def check_groove(self, lathe, turned, place, out, count):
        groove = cut_groove(lathe, (turned, place, out, 2))
        self.assertTrue(is_bar(((2 * 10 ** 6, 1), (groove,))) or told(groove[1]) < 0)
        self.assertEqual(groove[1:], (*sorted([place, out], key=told), 2))
        self.assertEqual(told(groove[0][1]), told(lathe[0]) * ratio_by_hand(lathe))
        for t in (told(turned) + Fraction(own, 5) for own in range(-3, 12)):
            carriage = led_to(lathe[0], ratio_by_hand(lathe) * t - count)
            self.assertTrue(lies_on(groove[0], carriage, t % 1))

    def test_worn_is_refused_first(self):
        cut = ((1, 7), O, ONE, 1)
        for call in [lambda: cut_groove(BENT, cut), lambda: bar_after(BENT, BARE, (cut,)),
                     lambda: bar_after(BENT, BARE, ()), lambda: start_for(BENT, KEY, O), lambda: unmade(BENT, BARE),
                     lambda: cuts_for(BENT, ROD), lambda: are_cuts_for(BENT, BARE, None),
                     lambda: are_cuts_for(BENT, BARE, ()), lambda: same_cuts(BENT, (cut,), ()),
                     lambda: same_cuts(BENT, (), ()), lambda: cuts_for(BENT, BARE)]:
            self.assertRaises(Unfit, call)


class Cuts(unittest.TestCase):
    def test_bar_after(self):
        cuts = (((2, 3), O, SIX, 2), (O, SIX, TWO, 1), ((8, 3), O, TWO, 3))
        left = bar_after(LATHE, ROD, cuts)
        grooves = {*ROD[1], (THREAD, O, SIX, 2), (("lead", (3, 1), O), TWO, SIX, 1), (THREAD, O, TWO, 3)}
        self.assertEqual(left, plain_bar((SIX, tuple(sorted(grooves)))))
        self.assertEqual(bar_after(LATHE, ROD, cuts[::-1]), left)
        self.assertEqual(bar_after(LATHE, UNEVEN, ()), plain_bar(UNEVEN))

    def test_which_error_is_first(self):
        open_nut, beyond, ahead = ((1, 7), O, ONE, 1), (O, O, (7, 1), 1), ((0, 1), SIX, (-1, 1), 1)
        self.assertRaises(NoClosing, bar_after, LATHE, BARE, (open_nut, beyond))
        self.assertRaises(Unfit, bar_after, LATHE, BARE, (beyond, open_nut))
        self.assertRaises(Unfit, bar_after, LATHE, BARE, (ahead,))
        self.assertRaises(NoClosing, bar_after, LATHE, BARE, (((1, 7), O, (7, 1), 1),))

    def test_start_for(self):
        for lathe in STRAIGHT:
            ratio = ratio_by_hand(lathe)
            lead, part = told(lathe[0]) * ratio, told(lathe[0]) / ratio.denominator
            for place in CARRIAGE:
                for number in range(abs(ratio.numerator)):
                    line = ("lead", pair(lead), pair(part * number))
                    self.assertEqual(start_for(lathe, line, place), self.start_by_hand(lathe, line, place))

    def start_by_hand(self, lathe, line, place):
        ratio = ratio_by_hand(lathe)
        turned = turns_by_hand(lathe[0], told(place)) / ratio % (1 / abs(ratio))
        while not lies_on(line, told(place), turned):
            turned += 1 / abs(ratio)
        return pair(turned)

    def test_lines_that_no_pass_leaves(self):
        for lathe in STRAIGHT:
            ratio = ratio_by_hand(lathe)
            lead, part = told(lathe[0]) * ratio, told(lathe[0]) / ratio.denominator
            lines = [KEY, NECK, ("flute", O), ("lead", pair(-lead), O), ("lead", pair(lead * 2), O),
                     ("lead", pair(lead), pair(part / 2)), ("lead", pair(lead), pair(part * Fraction(1, 3)))]
            for line in lines:
                self.assertRaises(NoPaper, start_for, lathe, line, O)
                start = line[1] if line[0] == "ring" else ONE
                groove = (line, start, start if line[0] == "ring" else TWO, 1)
                self.assertEqual(unmade(lathe, (SIX, (groove,))), 0)

    def test_unmade(self):
        fine = (("lead", (3, 1), O), O, SIX, 1)
        self.assertEqual(unmade(LATHE, (SIX, tuple(sorted([fine, (THREAD, O, SIX, 1)])))), None)
        self.assertEqual(unmade(LATHE, (SIX, tuple(sorted([fine, (NECK, TWO, TWO, 1), (THREAD, O, ONE, 2)])))), 2)
        self.assertEqual(unmade(LATHE, ROD), 0)
        self.assertIsNone(unmade(LATHE, BARE))

    def test_cuts_for(self):
        for bar in BARS:
            if unmade(LATHE, bar) is not None:
                self.assertRaises(NoPaper, cuts_for, LATHE, bar)
                continue
            cuts, plain = cuts_for(LATHE, bar), plain_bar(bar)
            wanted = tuple((start_for(LATHE, own[0], own[1]), *own[1:]) for own in plain[1])
            self.assertEqual(cuts, wanted)
            self.assertEqual(bar_after(LATHE, (bar[0], ()), cuts), plain)
            self.assertIs(are_cuts_for(LATHE, bar, cuts), True)
        self.assertEqual(cuts_for(LATHE, BARE), ())

    def test_are_cuts_for(self):
        good = (((8, 3), O, (4, 1), 2), (ONE, ONE, SIX, 2))
        self.assertIs(are_cuts_for(LATHE, TWICE, good), True)
        self.assertIs(are_cuts_for(LATHE, TWICE, good[::-1] * 2), True)
        self.assertIs(are_cuts_for(LATHE, TWICE, ((O, SIX, O, 2),)), False)
        self.assertIs(are_cuts_for(LATHE, TWICE, (((8, 3), SIX, O, 2),)), True)
        self.assertIs(are_cuts_for(LATHE, TWICE, (((-4, 3), O, SIX, 2),)), True)
        self.assertIs(are_cuts_for(LATHE, BARE, ()), True)
        self.assertTrue(alike_told(TWICE, plain_bar(TWICE)) and not alike_told(TWICE, BARE))
        for thing in [good[:1], good + ((ONE, ONE, SIX, 3),), good + (((2, 3), O, O, 1),),
                      (((1, 7), O, SIX, 2),), (((2, 3), O, (7, 1), 2),),
                      (((2, 3), SIX, (-1, 1), 2),), (((2, 3), O, O, 2),), (((2, 3), O, SIX, 0),), list(good),
                      (((2, 3), O, SIX, True),), (((2, 3), O, SIX),), (((2, 3), O, SIX, 2, 2),), ((2, 3), O, SIX, 2),
                      (((4, 6), O, SIX, 2),), (((2, 3), (0, 2), SIX, 2),), (((2, 3), O, (12, 2), 2),), (), ((),),
                      (((2, 3), O, SIX, -2),), ((0, O, SIX, 2),)] + STRANGE:
            self.assertIs(are_cuts_for(LATHE, TWICE, thing), False, thing)
        for thing in spoiled(good):
            self.assertIs(are_cuts_for(LATHE, TWICE, thing), False, thing)

    def test_what_is_no_bar_of_passes_has_no_cuts(self):
        for thing in STRANGE + [(((2, 3), O, SIX, 2),)]:
            self.assertIs(are_cuts_for(LATHE, ROD, thing), False)

    def test_same_cuts(self):
        one = ((O, O, (9, 1), 2), ((2, 3), (-5, 1), ONE, 1))
        self.check_same(one, one[::-1], False)
        closed = next_closing(LATHE, O, (-5, 1))
        one = ((O, O, (9, 1), 2), (closed, (-5, 1), ONE, 1))
        self.check_same(one, one[::-1], True)
        self.check_same(one, one + ((O, O, TWO, 1), (O, SIX, O, 2)), True)
        self.check_same(one, one[:1], False)
        self.check_same((), (), True)
        self.check_same((), one, False)
        self.check_same(((O, O, (9, 1), 2),), ((O, O, SIX, 2), ((2, 1), SIX, (9, 1), 2)), True)
        self.check_same(((O, O, (9, 1), 2),), ((O, O, (9, 1), 1),), False)

    def check_same(self, one, other, same):
        if any(count_by_hand(LATHE, *cut[:2]) is None for cut in one + other):
            self.assertRaises(NoClosing, same_cuts, LATHE, one, other)
            self.assertFalse(same)
        else:
            self.assertIs(same_cuts(LATHE, one, other), same)


if __name__ == "__main__":
    unittest.main()
