"""[9]: motions, and what is told of all of them, MOTION by MOTION."""

import unittest
from fractions import Fraction
from itertools import combinations, product

from screwshop.errors import TooMany, Unfit
from screwshop.lines import line_moved
from screwshop.motions import (band_from, band_moved, has_motion, index_of, is_motion, is_motions, keeps_band,
                               lines_from, motion_power, motion_put, motions_both, motions_by, motions_of, unkept)
from tests.support import STRANGE, spoiled
from tests.test_lines import pair, told

O, HALF, ONE, TWO, THREE = (0, 1), (1, 2), (1, 1), (2, 1), (3, 1)
THIRD, QUARTER, SIXTH = (1, 3), (1, 4), (1, 6)
# MOTIONS TOLD of each kind of free
TOLD = [("all", ()), ("turns", ()), ("shifts", ()), ("shifts", ((O, HALF),)), ("shifts", ((O, SIXTH),)),
        (ONE, ()), (THREE, ()), (THREE, ((O, THIRD),)), ((-2, 1), ((O, QUARTER),)), (ONE, ((O, HALF),)), (HALF, ()),
        ("none", ()), ("none", ((O, HALF),)), ("none", ((O, SIXTH),)), ("none", ((ONE, HALF),)),
        ("none", ((TWO, O),)), ("none", ((O, THIRD), (HALF, QUARTER))), ("none", ((O, HALF), (ONE, O))),
        ("none", ((HALF, (5, 6)),)), ("none", ((O, SIXTH), (THREE, (1, 12)))), ("none", (((3, 2), O),)),
        ("none", ((ONE, O),))]
GRID = [((shift, 4), (turn, 12)) for shift in range(-13, 14) for turn in range(12)]
GRID = [(pair(told(shift)), pair(told(turn))) for shift, turn in GRID]
FAR = 10 ** 30

TRIPLE = tuple((("lead", THREE, (own, 1)), 1) for own in range(3))
CROSS = ((("lead", (-2, 1), O), 1), (("lead", TWO, O), 1))
FLUTES = ((("flute", O), 1), (("flute", HALF), 1))
RINGS = ((("ring", O), 1), (("ring", ONE), 1))
PATTERN = tuple(sorted((("flute", pair(Fraction(own, 12))), own % 2 + 1) for own in range(12)))
BANDS = [(), TRIPLE, CROSS, FLUTES, RINGS, PATTERN, TRIPLE[:2], TRIPLE[:1], FLUTES[:1], FLUTES[1:], PATTERN[1:],
         FLUTES + TRIPLE, TRIPLE + RINGS, FLUTES + RINGS, FLUTES + CROSS + RINGS, CROSS + TRIPLE, PATTERN + CROSS,
         TRIPLE[:2] + ((("lead", THREE, TWO), 2),), ((("flute", O), 1), (("flute", HALF), 2)),
         tuple((("lead", (-1, 1), phase), 1) for phase in (O, HALF, QUARTER, (3, 4))),
         tuple(sorted((("lead", (-1, 1), phase), depth) for phase, depth in
                      ((O, 1), (HALF, 1), (QUARTER, 2), ((3, 4), 2)))),
         ((("lead", ONE, O), 1), (("lead", ONE, THIRD), 1), (("lead", ONE, HALF), 1), (("lead", ONE, (5, 6)), 1))]
BANDS.append([(("flute", pair(Fraction(own, 6))), own % 2 + 1) for own in range(6)])
BANDS.append([(("lead", THREE, pair(Fraction(own, 3))), 1 if own % 3 else 2) for own in range(9)])
BANDS = [tuple(sorted(band)) for band in BANDS]


def told_by_hand(motions, motion):
    """Whether motion comes of steps and the free ones, tried out."""
    free, steps = motions
    shift, turn = told(motion[0]), told(motion[1])
    fine = max([step[1][1] for step in steps if step[0] == O] + [1])
    if free == "all":
        return True
    if free == "turns":
        return shift == 0
    strides = [step for step in steps if step[0] != O]
    if free == "none":
        made = [(own * told(strides[0][0]), own * told(strides[0][1])) for own in range(-60, 61)] if strides else [(0, 0)]
        turns = [by for along, by in made if along == shift]
        return any(((turn - by) * fine).denominator == 1 for by in turns)
    if free == "shifts":
        return (turn * fine).denominator == 1
    return any(((shift - told(free) * (turn + Fraction(own, fine))) / told(free)).denominator == 1 for own in range(fine))


def free_steps(free, part):
    """MOTIONS that are free, one by part of a turn or of a shift."""
    small = (1, part)
    if not isinstance(free, str):
        return [(pair(told(free) / part), small)]
    return {"all": [(small, O), (O, small)], "turns": [(O, small)], "shifts": [(small, O)], "none": []}[free]


def made_of(motions, size, part=2):
    """What steps and some of the free ones make, each taken to size times either way."""
    found = {(O, O)}
    for step in list(motions[1]) + free_steps(motions[0], part):
        found = {motion_put(one, motion_power(step, own)) for one in found for own in range(-size, size + 1)}
    return sorted(found)


class Shapes(unittest.TestCase):
    def test_what_a_motion_is(self):
        for motion in GRID + [((-FAR, 7), (FAR, FAR + 1)), (O, O)]:
            self.assertIs(is_motion(motion), True, motion)
        for thing in STRANGE + [(O, ONE), (O, (-1, 2)), (O, (2, 4)), ((2, 2), O), [O, O], (O, [0, 1]), (O,), (O, O, O),
                                (O, (False, 1)), ((True, 1), O), (0, 0), (O, None), ("all", O), ((0, 2), O)]:
            self.assertIs(is_motion(thing), False, thing)
        for thing in spoiled(((-3, 2), (2, 3))):
            self.assertIs(is_motion(thing), False, thing)

    def test_what_motions_told_are(self):
        for motions in TOLD + [("none", ((O, (1, FAR)), ((FAR, 1), (1, FAR + 1)))), ((-FAR, 3), ((O, (1, FAR)),)),
                               ("none", (((1, FAR), (FAR - 1, FAR)),)), ("none", ((O, HALF), (ONE, THIRD)))]:
            self.assertIs(is_motions(motions), True, motions)

    def test_what_no_motions_told_are(self):
        for thing in STRANGE + [
                ("all", ((O, HALF),)), ("turns", ((O, HALF),)), ("all", ((O, O),)), ("shifts", ((O, O),)),
                ("shifts", ((ONE, O),)), ("shifts", ((O, (2, 3)),)), ("shifts", ((O, HALF), (ONE, O))),
                ("shifts", ((O, HALF), (O, HALF))), (THREE, ((O, (2, 3)),)), (THREE, ((ONE, THIRD),)), (O, ()),
                ((2, 4), ()), (THREE, ((O, O),)), ("none", ((O, O),)), ("none", ((O, (2, 3)),)),
                ("none", (((-1, 1), O),)), ("none", (((-1, 1), HALF),)), ("none", ((ONE, O), (O, HALF))),
                ("none", ((O, HALF), (ONE, HALF))), ("none", ((O, HALF), (ONE, (2, 3)))), ("none", ((O, HALF), (O, THIRD))),
                ("none", ((ONE, O), (TWO, O))), ("none", ((O, O), (ONE, O))), ("none", ((O, HALF), ((-1, 1), O))),
                ("none", ((O, (2, 3)), (ONE, O))), ("none", ((O, HALF), (ONE, O), (TWO, O))), ("none", (ONE, O)),
                ("none", [(ONE, O)]), ["none", ()], ("none", []), ("None", ()), ("rings", ()), ("", ()), ("none",),
                ("none", (), ()), ([3, 1], ()), ((True, 1), ()), (True, ()), (3, ()), ("none", ((O, (True, 2)),)),
                ("none", ((O, ONE),)), ("none", (((2, 2), O),)), ("none", ([ONE, O],))]:
            self.assertIs(is_motions(thing), False, thing)
        for motions in TOLD:
            for thing in spoiled(motions):
                self.assertIs(is_motions(thing), False, thing)


class Motions(unittest.TestCase):
    def test_put(self):
        for one in GRID[::7]:
            for other in GRID[::11]:
                both = motion_put(one, other)
                self.assertTrue(is_motion(both))
                self.assertEqual(told(both[0]), told(one[0]) + told(other[0]))
                self.assertEqual(told(both[1]), (told(one[1]) + told(other[1])) % 1)

    def test_power(self):
        for motion in GRID[::5] + [((-7, 9), (998, 999))]:
            for times in (0, 1, -1, 5, -12, FAR, -FAR, FAR + 1):
                shift, turn = motion_power(motion, times)
                self.assertTrue(is_motion((shift, turn)))
                self.assertEqual(told(shift), told(motion[0]) * times)
                self.assertEqual(told(turn), told(motion[1]) * times % 1)

    def test_bands_moved(self):
        kept = 0
        for band in BANDS:
            for motion in GRID[::3]:
                moved = tuple(sorted((line_moved(line, motion), depth) for line, depth in band))
                self.assertEqual(band_moved(band, motion), moved)
                self.assertIs(keeps_band(band, motion), moved == band)
                lost = [own for own in band if (line_moved(own[0], motion), own[1]) not in band]
                self.assertEqual(unkept(band, motion), min(lost) if lost else None)
                kept += moved == band
        self.assertGreater(kept, 200)


class Told(unittest.TestCase):
    def test_has_motion(self):
        for motions in TOLD:
            for motion in GRID:
                self.assertIs(has_motion(motions, motion), told_by_hand(motions, motion), (motions, motion))
            for motion in made_of(motions, 3):
                self.assertIs(has_motion(motions, motion), True, (motions, motion))

    def test_motions_of(self):
        free = {}
        for band in BANDS:
            motions = motions_of(band)
            self.assertIs(is_motions(motions), True, motions)
            for motion in GRID:
                self.assertIs(has_motion(motions, motion), keeps_band(band, motion), (band, motions, motion))
            for motion in made_of(motions, 2):
                self.assertIs(keeps_band(band, motion), True)
            free[band] = motions[0]
        self.assertEqual([free[own] for own in ((), TRIPLE, CROSS, FLUTES, RINGS)], ["all", THREE, "none", "shifts", "turns"])

    def test_without_rings_there_is_a_shift(self):
        for band in BANDS:
            free, steps = motions_of(band)
            rings = [line for line, _ in band if line[0] == "ring"]
            shifts = free in ("all", "shifts") or not isinstance(free, str) or any(step[0] != O for step in steps)
            self.assertIs(shifts, not rings)

    def test_motions_of_far_repeats(self):
        self.assertEqual(motions_of(PATTERN), ("shifts", ((O, SIXTH),)))
        self.assertEqual(motions_of(FLUTES + TRIPLE), ("none", ((HALF, HALF),)))
        seven, nine = (("lead", (7, 1000), O), 1), (("lead", (-9, 997), O), 1)
        steps = motions_of((nine, seven))[1]
        # both alike go round once less or more: 7/1000 by 9/997, by their sum
        self.assertEqual(steps[-1][0], pair(1 / (Fraction(1000, 7) + Fraction(997, 9))))
        self.assertTrue(keeps_band((nine, seven), steps[-1]))

    def test_motions_by(self):
        some = [((O, HALF),), ((O, O),), (), ((ONE, HALF), ((3, 2), QUARTER)), (((-1, 1), THIRD),), (((-1, 2), O), (O, THIRD)),
                (((-3, 4), THIRD), (O, QUARTER), (HALF, SIXTH)), ((O, QUARTER), (O, SIXTH)), ((ONE, O), (ONE, THIRD)),
                ((TWO, (1, 5)), (THREE, (1, 5))), ((TWO, (1, 5)), (THREE, (3, 10))), (((-2, 1), THIRD), ((5, 2), SIXTH)),
                ((ONE, O), (TWO, HALF)), (((2, 3), O), (THREE, (1, 12)), ((5, 4), HALF))]
        for steps in some:
            steps = tuple(sorted(steps))
            motions = motions_by(steps)
            self.assertIs(is_motions(motions), True, motions)
            self.assertEqual(motions[0], "none")
            for step in steps:
                self.assertTrue(told_by_hand(motions, step))
            self.check_made_by(steps, motions)
        self.assertEqual(motions_by(((O, (1, 999)), (O, (1, 1000)))), ("none", ((O, (1, 999000)),)))

    def check_made_by(self, steps, motions):
        made = {(O, O)}
        for step in steps:
            made = {motion_put(one, motion_power(step, own)) for one in made for own in range(-12, 13)}
        for step in motions[1]:
            self.assertIn(step, made)

    def test_both(self):
        for near, far in product(TOLD, TOLD):
            both = motions_both(near, far)
            self.assertIs(is_motions(both), True, both)
            for motion in GRID:
                self.assertIs(has_motion(both, motion), has_motion(near, motion) and has_motion(far, motion),
                              (near, far, both, motion))
            for motion in made_of(both, 1):
                self.assertTrue(has_motion(near, motion) and has_motion(far, motion))
            self.assertEqual(both, motions_both(far, near))

    def test_both_are_the_greatest(self):
        near, far = ("none", ((O, (1, 6)), ((3, 5), (1, 7)))), ("none", ((O, (1, 4)), ((2, 7), (1, 5))))
        both = motions_both(near, far)
        fine, (shift, turn) = both[1][0], both[1][1]
        self.assertEqual(fine, (O, HALF))
        fits = [own for own in range(1, 2000) if self.shift_in_both(near, far, Fraction(6 * own))]
        self.assertEqual((told(shift), has_motion(near, (shift, turn)), has_motion(far, (shift, turn))), (6 * fits[0], True, True))

    def shift_in_both(self, near, far, shift):
        turns = [{(shift / told(own[1][1][0]) * told(own[1][1][1]) + Fraction(by, own[1][0][1][1])) % 1
                  for by in range(own[1][0][1][1])} for own in (near, far)]
        return bool(turns[0] & turns[1])


class Indexes(unittest.TestCase):
    def test_unfit_and_without_end(self):
        for larger, smaller in product(TOLD, TOLD):
            if motions_both(larger, smaller) != smaller:
                self.assertRaises(Unfit, index_of, larger, smaller)
            else:
                self.check_index(larger, smaller)

    def check_index(self, larger, smaller):
        index = index_of(larger, smaller)
        sets = [self.sets_of(made_of(larger, size), smaller) for size in (4, 8)]
        if index is not None:
            self.assertEqual((sets[1], type(index)), (index, int))
        elif larger[0] == "none":
            self.assertGreater(sets[1], sets[0])
        else:
            self.assertNotEqual(larger[0], smaller[0])

    def sets_of(self, motions, smaller):
        firsts = []
        for motion in motions[::1 if len(motions) < 200 else len(motions) // 200]:
            back = motion_power(motion, -1)
            if not any(has_motion(smaller, motion_put(own, back)) for own in firsts):
                firsts.append(motion)
        return len(firsts)

    def test_index(self):
        for larger, smaller, index in [
                (("none", ((ONE, HALF),)), ("none", ((TWO, O),)), 2), (("turns", ()), ("none", ()), None),
                (("all", ()), ("all", ()), 1), (("turns", ()), ("turns", ()), 1), (("all", ()), ("turns", ()), None),
                (("all", ()), (ONE, ()), None), (("shifts", ((O, SIXTH),)), ("shifts", ((O, HALF),)), 3),
                (("shifts", ((O, SIXTH),)), ("shifts", ()), 6), ((THREE, ((O, THIRD),)), (THREE, ()), 3),
                (("shifts", ()), ("none", ()), None), ((ONE, ()), ("none", ((TWO, O),)), None),
                (("none", ((O, SIXTH),)), ("none", ((O, HALF),)), 3), (("none", ((O, SIXTH),)), ("none", ()), 6),
                (("none", ((ONE, O),)), ("none", ()), None), (("none", ((O, HALF), (ONE, O))), ("none", ((O, HALF),)), None),
                (("none", ((O, SIXTH), (HALF, O))), ("none", ((O, HALF), ((3, 2), THIRD))), 9),
                (("none", ((O, HALF), (ONE, O))), ("none", ((ONE, HALF),)), 2), (("none", ()), ("none", ()), 1),
                (("none", ((O, (1, FAR)),)), ("none", ()), FAR)]:
            self.assertEqual(index_of(larger, smaller), index, (larger, smaller))

    def test_indexes_are_multiplied(self):
        for one, two, three in combinations(TOLD, 3):
            if motions_both(one, two) == two and motions_both(two, three) == three:
                indexes = [index_of(one, two), index_of(two, three), index_of(one, three)]
                if None not in indexes:
                    self.assertEqual(indexes[0] * indexes[1], indexes[2])
                else:
                    self.assertIsNone(indexes[2])


class Lines(unittest.TestCase):
    lines = [("ring", HALF), ("flute", O), ("flute", (3, 4)), ("lead", THREE, O), ("lead", ONE, HALF),
             ("lead", (-2, 1), O), ("lead", (-1, 3), (1, 4))]

    def test_lines_from(self):
        for motions, line in product(TOLD, self.lines):
            reached = {line_moved(line, motion) for motion in made_of(motions, 9, 9)}
            farther = {line_moved(line, motion) for motion in made_of(motions, 15, 31)}
            with self.subTest(motions=motions, line=line):
                if len(farther) > len(reached):
                    self.assertRaises(TooMany, lines_from, motions, line)
                else:
                    self.assertEqual(lines_from(motions, line), tuple(sorted(reached)))

    def test_too_many(self):
        for many in (400, 401):
            motions = ("none", ((O, (1, many)),))
            if many == 400:
                self.assertEqual(len(lines_from(motions, ("flute", THIRD))), 400)
                self.assertEqual(len(lines_from(motions, ("lead", (-7, 3), O))), 400)
                self.assertEqual(len(band_from(motions, ((("flute", THIRD), 1), (("lead", ONE, O), 2)))), 800)
            else:
                self.assertRaises(TooMany, lines_from, motions, ("flute", THIRD))
                self.assertRaises(TooMany, lines_from, motions, ("lead", (-7, 3), O))
            self.assertEqual(lines_from(motions, ("ring", TWO)), (("ring", TWO),))
        self.assertRaises(TooMany, lines_from, ("none", ((O, (1, FAR)),)), ("flute", O))

    def test_band_from(self):
        for motions, band in product(TOLD, BANDS):
            self.check_band_from(motions, band)

    def check_band_from(self, motions, band):
        try:
            reached = [(own, depth) for line, depth in band for own in lines_from(motions, line)]
        except TooMany:
            self.assertRaises(TooMany, band_from, motions, band)
            return
        reached = sorted(set(reached))
        if len({line for line, _ in reached}) < len(reached):
            self.assertRaises(Unfit, band_from, motions, band)
        else:
            self.assertEqual(band_from(motions, band), tuple(reached))

    def test_which_error_is_first(self):
        two_depths = ((("flute", O), 1), (("flute", HALF), 2), (("ring", O), 1))
        self.assertRaises(TooMany, band_from, ("none", ((ONE, HALF),)), two_depths)
        self.assertRaises(Unfit, band_from, ("none", ((ONE, HALF),)), two_depths[:2])
        self.assertRaises(Unfit, band_from, ("none", ((O, HALF),)), two_depths)
        self.assertEqual(band_from(("none", ((ONE, O),)), two_depths[:2]), two_depths[:2])


if __name__ == "__main__":
    unittest.main()
