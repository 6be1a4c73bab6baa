"""[6]: bars, looked at POINT by POINT."""

import random
import unittest
from fractions import Fraction

from screwshop.bars import (alike_told, band_of, bar_cut, bar_with, bars_joined, depth_at, is_bar, is_plain,
                            is_telling_point, pitch_of, plain_bar, rows_of, starts_of, telling_point)
from screwshop.errors import NoPaper, Unfit
from tests.support import STRANGE, spoiled
from tests.test_lines import lies_on, pair, told

O, HALF, ONE, TWO, THREE, FOUR, SIX = (0, 1), (1, 2), (1, 1), (2, 1), (3, 1), (4, 1), (6, 1)
THREAD, KEY, NECK, LEFT = ("lead", THREE, ONE), ("flute", (1, 4)), ("ring", TWO), ("lead", (-1, 2), (1, 8))
ROD = (SIX, ((KEY, O, SIX, 1), (THREAD, O, SIX, 2), (NECK, TWO, TWO, 3)))
BARE = (SIX, ())
TWICE = (SIX, ((THREAD, O, FOUR, 2), (THREAD, TWO, SIX, 2)))
UNEVEN = (SIX, ((THREAD, O, SIX, 1), (THREAD, TWO, FOUR, 2)))
# by comparison of the pairs (1, 2) stands behind (1, 1), and (3, 2) behind (2, 1)
CROOKED = (TWO, ((KEY, ONE, TWO, 1), (KEY, HALF, ONE, 2), (KEY, HALF, (3, 2), 1)))
LINES = [THREAD, KEY, NECK, LEFT, ("ring", O), ("ring", SIX), ("ring", (3, 2)), ("flute", O), ("lead", ONE, O),
         ("lead", (-2, 1), ONE)]
PLACES = [O, (1, 3), HALF, ONE, (3, 2), TWO, (5, 2), THREE, FOUR, (13, 3), (5, 1), SIX]


def some_bars(many, grooves=6, seed=7):
    chance = random.Random(seed)
    return [(SIX, tuple(sorted({some_groove(chance) for _ in range(chance.randrange(grooves + 1))})))
            for _ in range(many)]


def some_groove(chance):
    line, depth = chance.choice(LINES[:chance.randrange(1, len(LINES) + 1)]), chance.randrange(1, 4)
    if line[0] == "ring":
        return (line, line[1], line[1], depth)
    start, end = sorted(chance.sample(PLACES, 2), key=told)
    return (line, start, end, depth)


BARS = [ROD, BARE, TWICE, UNEVEN, CROOKED] + some_bars(60)


def depth_by_hand(bar, place, angle):
    return max([0] + [depth for line, start, end, depth in bar[1]
                      if told(start) <= place <= told(end) and lies_on(line, place, angle)])


def looked_at(*bars):
    """POINTS of the bars, as Fractions, on each of their LINES: at all ends, between them, at rings too."""
    grooves = [groove for bar in bars for groove in bar[1]]
    ends = {told(end) for groove in grooves for end in groove[1:3]} | {Fraction(0), told(bars[0][0])}
    ends = sorted(end for end in ends if end <= min(told(bar[0]) for bar in bars))
    places = ends + [(low + high) / 2 + Fraction(1, 7919) for low, high in zip(ends, ends[1:])]
    points = [(place, Fraction(angle)) for place in places for angle in (0, Fraction(1, 7907))]
    for line in {groove[0] for groove in grooves}:
        for place in places:
            if line[0] == "flute":
                points.append((place, told(line[1])))
            if line[0] == "lead":
                points.append((place, (place - told(line[2])) / told(line[1]) % 1))
    return points


def plain_by_hand(bar):
    """[3] word by word."""
    for one in bar[1]:
        for other in bar[1]:
            if one < other and one[0] == other[0]:
                low, high = max(told(one[1]), told(other[1])), min(told(one[2]), told(other[2]))
                just_an_end = one[0][0] != "ring" and low == high
                if low <= high and not (just_an_end and one[3] != other[3]):
                    return False
    return True


class Shapes(unittest.TestCase):
    def test_what_a_bar_is(self):
        for bar in BARS + [((1, 1000), ()), (ONE, ((("ring", ONE), ONE, ONE, 10 ** 40),)),
                           ((10 ** 40, 7), ()), (ONE, tuple(sorted((KEY, O, ONE, own) for own in range(1, 60)))),
                           (ONE, ((("ring", O), O, O, 1), (("ring", O), O, O, 2)))]:
            self.assertIs(is_bar(bar), True, bar)

    def test_what_no_bar_is(self):
        for thing in STRANGE + [
                (SIX, ROD[1][::-1]), (SIX, ROD[1][:1] * 2), ((5, 1), ROD[1]), ((12, 2), ()), (O, ()), ((-1, 1), ()),
                (SIX, list(ROD[1])), [SIX, ROD[1]], (SIX, None), (SIX, ((KEY, O, O, 1),)), (SIX, ((KEY, ONE, O, 1),)),
                (SIX, ((KEY, (-1, 2), ONE, 1),)), (SIX, ((NECK, TWO, THREE, 1),)), (SIX, ((NECK, ONE, ONE, 1),)),
                (SIX, ((("ring", (7, 1)), (7, 1), (7, 1), 1),)), (SIX, ((("ring", (-1, 1)), (-1, 1), (-1, 1), 1),)),
                (SIX, ((KEY, O, SIX, 0),)), (SIX, ((KEY, O, SIX, -1),)), (SIX, ((KEY, O, SIX, True),)),
                (SIX, ((KEY, O, (12, 2), 1),)), (SIX, ((KEY, O, SIX),)), (SIX, ((KEY, O, SIX, 1, 1),)),
                (SIX, (("lead", O, SIX, 1),)), (SIX, ((KEY, O, None, 1),)), (SIX, (KEY, O, SIX, 1)), (6, ()),
                (SIX, ((NECK, TWO, (4, 2), 1),)), (SIX, ((("ring", (4, 2)), (4, 2), (4, 2), 1),))]:
            self.assertIs(is_bar(thing), False, thing)
        for bar in (ROD, CROOKED):
            for thing in spoiled(bar):
                self.assertIs(is_bar(thing), False, thing)

    def test_is_plain(self):
        for bar in BARS:
            self.assertIs(is_plain(bar), plain_by_hand(bar), bar)
        for grooves, plain in [
                (((KEY, O, ONE, 1), (KEY, ONE, TWO, 2)), True), (((KEY, O, ONE, 1), (KEY, ONE, TWO, 1)), False),
                (((KEY, O, ONE, 1), (KEY, TWO, THREE, 1)), True), (((KEY, O, TWO, 1), (KEY, ONE, TWO, 2)), False),
                (((KEY, O, THREE, 3), (KEY, ONE, TWO, 1)), False), (((NECK, TWO, TWO, 1), (NECK, TWO, TWO, 2)), False),
                (((KEY, O, ONE, 1), (("flute", O), O, ONE, 1)), True), ((), True)]:
            self.assertIs(is_plain((SIX, tuple(sorted(grooves)))), plain, grooves)

    def test_plain_bar(self):
        for bar in BARS:
            plain = plain_bar(bar)
            with self.subTest(bar=bar):
                self.assertTrue(is_bar(plain) and plain_by_hand(plain))
                self.assertEqual(plain[0], bar[0])
                for place, angle in looked_at(bar, plain):
                    self.assertEqual(depth_by_hand(plain, place, angle), depth_by_hand(bar, place, angle))
                self.assertEqual(plain_bar(plain), plain)

    def test_grooves_of_one_line(self):
        def plain(*stretches):
            grooves = tuple(sorted((KEY, (low, 1), (high, 1), depth) for low, high, depth in stretches))
            return [(start[0], end[0], depth) for _, start, end, depth in plain_bar((SIX, grooves))[1]]
        self.assertEqual(plain((0, 3, 1), (2, 5, 1)), [(0, 5, 1)])
        self.assertEqual(plain((0, 3, 1), (3, 5, 1)), [(0, 5, 1)])
        self.assertEqual(plain((0, 3, 1), (3, 5, 2)), [(0, 3, 1), (3, 5, 2)])
        self.assertEqual(plain((0, 3, 2), (2, 5, 1)), [(0, 3, 2), (3, 5, 1)])
        self.assertEqual(plain((0, 5, 2), (2, 3, 1)), [(0, 5, 2)])
        self.assertEqual(plain((0, 5, 1), (2, 3, 2)), [(0, 2, 1), (2, 3, 2), (3, 5, 1)])
        self.assertEqual(plain((0, 2, 1), (3, 5, 1)), [(0, 2, 1), (3, 5, 1)])
        self.assertEqual(plain((0, 2, 1), (3, 5, 1), (2, 3, 1)), [(0, 5, 1)])
        self.assertEqual(plain((0, 4, 1), (0, 3, 2), (0, 2, 3), (1, 6, 1)), [(0, 2, 3), (2, 3, 2), (3, 6, 1)])

    def test_rings(self):
        rings = tuple(sorted([(NECK, TWO, TWO, own) for own in (1, 3, 2)] + [(("ring", O), O, O, 1),
                                                                             (("ring", SIX), SIX, SIX, 1)]))
        self.assertEqual(plain_bar((SIX, rings))[1], ((("ring", O), O, O, 1), (NECK, TWO, TWO, 3),
                                                      (("ring", SIX), SIX, SIX, 1)))

    def test_order_is_that_of_the_pairs(self):
        self.assertEqual(plain_bar(CROOKED), (TWO, ((KEY, ONE, TWO, 1), (KEY, HALF, ONE, 2))))


class Depths(unittest.TestCase):
    def test_depth_at(self):
        for bar in BARS:
            for place, angle in looked_at(bar):
                self.assertEqual(depth_at(bar, (pair(place), pair(angle))), depth_by_hand(bar, place, angle))

    def test_ends(self):
        rings = (SIX, ((("ring", O), O, O, 1), (("ring", SIX), SIX, SIX, 2)))
        self.assertEqual([depth_at(rings, (own, (1, 3))) for own in (O, SIX, THREE)], [1, 2, 0])
        for place in ((-1, 1000), (6001, 1000), (7, 1), (-1, 1)):
            self.assertRaises(Unfit, depth_at, ROD, (place, O))

    def test_bar_with(self):
        for bar in BARS[5:]:
            for other in BARS[5:20]:
                for groove in other[1]:
                    whole = plain_bar((SIX, tuple(sorted({groove, *bar[1]}))))
                    self.assertEqual(bar_with(bar, groove), whole)
        self.assertEqual(bar_with(BARE, (KEY, O, SIX, 1)), (SIX, ((KEY, O, SIX, 1),)))
        for groove in [(KEY, O, (7, 1), 1), (KEY, (-1, 9), SIX, 1), (("ring", (7, 1)), (7, 1), (7, 1), 1),
                       (("ring", (-1, 1)), (-1, 1), (-1, 1), 1), (THREAD, (-2, 1), (-1, 1), 1)]:
            self.assertRaises(Unfit, bar_with, ROD, groove)


class Pieces(unittest.TestCase):
    def test_cut(self):
        for bar in BARS[:4] + BARS[5:40]:
            for start, end in [(O, SIX), (O, TWO), (TWO, (5, 1)), ((3, 2), (13, 3)), ((5, 2), SIX), (ONE, FOUR)]:
                self.check_cut(bar, start, end)

    def check_cut(self, bar, start, end):
        piece = bar_cut(bar, start, end)
        self.assertTrue(is_bar(piece) and plain_by_hand(piece))
        self.assertEqual(told(piece[0]), told(end) - told(start))
        left = (bar[0], tuple(own for own in bar[1] if own[0][0] == "ring" or
                              (told(own[1]) < told(end) and told(start) < told(own[2]))))
        for place, angle in looked_at(left):
            if told(start) <= place <= told(end):
                self.assertEqual(depth_by_hand(piece, place - told(start), angle), depth_by_hand(left, place, angle))

    def test_just_an_end_falls_away_and_rings_stay(self):
        bar = (SIX, ((KEY, O, TWO, 1), (THREAD, FOUR, SIX, 1), (NECK, TWO, TWO, 3), (("ring", FOUR), FOUR, FOUR, 2)))
        self.assertEqual(bar_cut(bar, TWO, FOUR), (TWO, ((("ring", O), O, O, 3), (("ring", TWO), TWO, TWO, 2))))

    def test_pieces_that_are_none(self):
        for start, end in [((-1, 9), TWO), (O, (7, 1)), (TWO, TWO), (THREE, TWO), ((7, 1), (8, 1)), ((5, 2), TWO)]:
            self.assertRaises(Unfit, bar_cut, ROD, start, end)

    def test_cut_in_two_and_joined(self):
        for bar in BARS[:4] + BARS[5:]:
            for at in PLACES[1:-1]:
                self.assertEqual(bars_joined(bar_cut(bar, O, at), bar_cut(bar, at, SIX)), plain_bar(bar))

    def test_joined(self):
        for one, other in zip(BARS, BARS[7:] + BARS[:7]):
            both = bars_joined(one, other)
            self.assertTrue(is_bar(both) and plain_by_hand(both))
            self.assertEqual(told(both[0]), told(one[0]) + told(other[0]))
            for place, angle in looked_at(one) + looked_at(other):
                first = depth_by_hand(one, place, angle) if place <= told(one[0]) else 0
                second = depth_by_hand(other, place - told(one[0]), angle) if place >= told(one[0]) else 0
                self.assertEqual(depth_by_hand(both, place, angle), max(first, second))


class Bands(unittest.TestCase):
    def test_band_of(self):
        for bar in BARS:
            band = band_of(bar)
            self.assertEqual([line for line, _ in band], sorted({groove[0] for groove in bar[1]}))
            for line, depth in band:
                self.assertEqual(depth, max(groove[3] for groove in bar[1] if groove[0] == line))
        self.assertEqual(band_of(BARE), ())

    def test_rows(self):
        band = [(("lead", ONE, HALF), 1), (("lead", ONE, O), 2), (("lead", ONE, (2, 3)), 1), (("flute", O), 7),
                (("lead", (3, 4), (1, 3)), 3), (("lead", (-5, 2), TWO), 3), (("lead", (-5, 2), (3, 2)), 3), (NECK, 1)]
        rows = [((-5, 2), (((3, 2), 3), (TWO, 3))), ((3, 4), (((1, 3), 3),)), (ONE, ((O, 2), (HALF, 1), ((2, 3), 1)))]
        self.assertEqual(rows_of(tuple(sorted(band))), rows)
        self.assertEqual([starts_of(tuple(sorted(band)), own) for own in (ONE, (3, 4), (-5, 2), TWO, (5, 2))],
                         [3, 1, 2, 0, 0])
        self.assertEqual((rows_of(()), rows_of(((NECK, 1),)), starts_of((), ONE)), ([], [], 0))

    def test_pitch(self):
        def pitch(lead, *phases):
            return pitch_of(tuple(sorted((("lead", lead, phase), 1) for phase in phases)), lead)
        self.assertEqual(pitch((5, 2), ONE), (5, 2))
        self.assertEqual(pitch((-5, 2), ONE), (5, 2))
        self.assertEqual(pitch(ONE, HALF, O), HALF)
        self.assertEqual(pitch(ONE, (2, 3), (1, 3), O), (1, 3))
        self.assertEqual(pitch((-3, 1), HALF, (3, 2), (5, 2)), ONE)
        self.assertIsNone(pitch(ONE, HALF, (1, 4)))
        self.assertIsNone(pitch(THREE, O, ONE))
        self.assertIsNone(pitch_of(((KEY, 1),), ONE))
        self.assertIsNone(pitch_of((), ONE))
        self.assertEqual(pitch_of(((("lead", ONE, HALF), 9), (("lead", TWO, O), 1), (("lead", TWO, ONE), 5)), TWO), ONE)


class Two(unittest.TestCase):
    def check_two(self, one, other):
        alike = all(depth_by_hand(one, *own) == depth_by_hand(other, *own) for own in looked_at(one, other))
        self.assertIs(alike_told(one, other), alike)
        if alike:
            self.assertRaises(NoPaper, telling_point, one, other)
        else:
            point = telling_point(one, other)
            self.assertNotEqual(depth_by_hand(one, told(point[0]), told(point[1])),
                                depth_by_hand(other, told(point[0]), told(point[1])))
            self.assertIs(is_telling_point(one, other, point), True)
            self.assertIs(is_telling_point(other, one, point), True)

    def test_telling(self):
        bars = BARS[:4] + BARS[5:35]
        for one in bars:
            self.check_two(one, plain_bar(one))
            for other in bars:
                self.check_two(one, other)

    def test_covered_by_crossings_without_end(self):
        fine = tuple((("lead", (1, own), O), O, (10 ** 6, 1), 20) for own in range(990, 1000))
        one = ((10 ** 6, 1), tuple(sorted(fine + ((("lead", (7, 1), O), O, (10 ** 6, 1), 1),))))
        self.check_two(one, ((10 ** 6, 1), tuple(sorted(fine))))
        ring = (("ring", (5, 1)), (5, 1), (5, 1), 1)
        self.check_two(((10 ** 6, 1), tuple(sorted(fine + (ring,)))), ((10 ** 6, 1), tuple(sorted(fine))))

    def test_crossings_where_points_are_looked_for(self):
        for line, other, length in [(("flute", O), ("lead", ONE, O), THREE), (("lead", ONE, O), ("flute", O), THREE),
                                    (("lead", ONE, O), ("lead", (-10, 9), O), (30, 19))]:
            cover = (other, O, length, 20)
            self.check_two((length, tuple(sorted([cover, (line, O, length, 1)]))), (length, (cover,)))

    def test_not_as_long(self):
        for one, other in [(BARE, ((5, 1), ())), (ROD, CROOKED)]:
            self.assertIs(alike_told(one, other), False)
            self.assertRaises(Unfit, telling_point, one, other)
            for thing in STRANGE + [(O, O)]:
                self.assertRaises(Unfit, is_telling_point, one, other, thing)

    def test_is_telling_point(self):
        self.assertIs(is_telling_point(TWICE, UNEVEN, (ONE, O)), True)
        for thing in STRANGE + [[ONE, O], (ONE, [0, 1]), ((1, 1), (0, 2)), ((2, 2), O), (ONE, (1, 1)), ((THREE), HALF),
                                ((3, 1), (2, 3)), ((7, 1), O), ((-2, 1), O), (ONE, (False, 1)), ((True, 1), O),
                                ("1", O), (ONE,), (ONE, O, O), (ONE, O, 1)]:
            self.assertIs(is_telling_point(TWICE, UNEVEN, thing), False, thing)
        for thing in spoiled((ONE, O)):
            self.assertIs(is_telling_point(TWICE, UNEVEN, thing), False, thing)
        self.assertIs(is_telling_point(ROD, ROD, (ONE, O)), False)


if __name__ == "__main__":
    unittest.main()
