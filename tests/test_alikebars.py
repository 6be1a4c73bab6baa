"""[10]: alike bands and bars, tried MOTION by MOTION and POINT by POINT."""

import random
import unittest
from fractions import Fraction
from itertools import product

from screwshop.alikebars import (alike_bands, alike_bars, bar_mirrored, ends_exchanged, is_handed, is_mirror_between,
                                 is_motion_between, is_parting_point, mirror_between, motion_between, parting_point,
                                 turns_between)
from screwshop.bars import is_bar, is_plain, plain_bar
from screwshop.errors import NoPaper
from screwshop.lines import line_mirrored, line_moved
from screwshop.motions import band_moved, is_motion, motion_put, motions_of
from tests.support import STRANGE, spoiled
from tests.test_bars import depth_by_hand, looked_at, some_bars
from tests.test_lines import pair, told
from tests.test_motions import BANDS, GRID, made_of

O, HALF, ONE, TWO, THREE, SIX = (0, 1), (1, 2), (1, 1), (2, 1), (3, 1), (6, 1)
RIGHT, LATE, LEFT = ("lead", ONE, O), ("lead", ONE, HALF), ("lead", (-1, 1), O)
THREAD, KEY, NECK = ("lead", THREE, ONE), ("flute", (1, 4)), ("ring", TWO)


def band(*pairs):
    return tuple(sorted(pairs))


def steep_by_hand(line):
    return None if line[0] == "ring" else Fraction(0) if line[0] == "flute" else 1 / told(line[1])


def angle_by_hand(line):
    """The angle at PLACE 0."""
    return told(line[1]) if line[0] == "flute" else -told(line[2]) / told(line[1])


def candidates(one, other):
    """MOTIONS, as pairs of Fractions, of which one leads one to other if any does."""
    firsts = {}
    for line, _ in one:
        firsts.setdefault(steep_by_hand(line), line)
    images = [[(line, to) for to, _ in other if steep_by_hand(to) == steep] for steep, line in firsts.items()]
    turned = [own for own in images if own and own[0][0][0] != "ring"]
    if any(not own for own in images):
        return
    shifts = [told(to[1]) - told(line[1]) for own in images for line, to in own if line[0] == "ring"]
    steeps = [own for own in firsts if own is not None]
    if not shifts and len(steeps) > 1:
        shifts = [shift for near, far in product(turned[0], turned[1]) for shift in shifts_of(near, far, steeps)]
    for shift in shifts or [Fraction(0)]:
        for line, to in turned[0] if turned else [(None, None)]:
            turn = 0 if line is None else angle_by_hand(to) - angle_by_hand(line) + steep_by_hand(line) * shift
            yield shift, turn % 1


def shifts_of(near, far, steeps):
    """The shifts of the MOTIONS that lead two lines to two others, as many as are unlike for all steeps."""
    drift = steep_by_hand(near[0]) - steep_by_hand(far[0])
    gone = [angle_by_hand(to) - angle_by_hand(line) for line, to in (near, far)]
    many = 1
    for own in steeps[1:]:
        while (many * (steeps[0] - own) / drift).denominator != 1:
            many += 1
    return [(gone[1] - gone[0] + number) / drift for number in range(many)]


def led_by_hand(one, other):
    return any(band_moved(one, (pair(shift), pair(turn))) == other for shift, turn in candidates(one, other))


def some_bands(many, seed=5):
    chance = random.Random(seed)
    leads = [ONE, (-1, 1), TWO, (-3, 2), (1, 2)]
    found = []
    for _ in range(many):
        kinds = chance.sample(["ring", "flute"] + leads, chance.randrange(1, 4))
        lines = {some_line(chance, kind) for kind in kinds for _ in range(chance.randrange(1, 4))}
        found.append(band(*[(line, chance.randrange(1, 3)) for line in lines]))
    return found


def some_line(chance, kind):
    if kind == "ring":
        return ("ring", pair(Fraction(chance.randrange(-4, 8), 2)))
    if kind == "flute":
        return ("flute", pair(Fraction(chance.randrange(6), 6)))
    return ("lead", kind, pair(Fraction(chance.randrange(6), 6) * abs(told(kind))))


class Bands(unittest.TestCase):
    def check_led(self, one, other):
        if not led_by_hand(one, other):
            self.assertIs(alike_bands(one, other), False, (one, other))
            self.assertRaises(NoPaper, motion_between, one, other)
            return False
        motion = motion_between(one, other)
        self.assertIs(is_motion(motion), True)
        self.assertEqual(band_moved(one, motion), other)
        self.assertIs(is_motion_between(one, other, motion), True)
        self.assertIs(alike_bands(one, other), True)
        return True

    def test_bands_moved_are_alike(self):
        for one in BANDS + some_bands(60):
            for motion in GRID[::37] + [((-7, 9), (998, 999)), ((10 ** 6, 999), (1, 1000))]:
                self.assertTrue(self.check_led(one, band_moved(one, motion)))

    def test_each_with_each(self):
        alike = 0
        bands = BANDS + some_bands(60)
        for one, other in product(bands, bands):
            alike += self.check_led(one, other)
        self.assertGreater(alike, len(bands))

    def test_one_line_moved_alone(self):
        alike = 0
        for number, one in enumerate(some_bands(200, 11)):
            line, depth = one[number % len(one)]
            moved = line_moved(line, ((number % 5, 6), (number % 7, 12))), depth
            other = band(*({*one} - {(line, depth)} | {moved}))
            if len({own for own, _ in other}) == len(one):
                alike += self.check_led(one, other)
        self.assertGreater(alike, 30)

    def test_alike_only_two_by_two(self):
        flute, lead, slow = ("flute", O), ("lead", ONE, O), ("lead", TWO, O)
        for one in [((flute, 1), (lead, 1), (slow, 1)), ((("lead", (-1, 1), O), 1), (lead, 1), (slow, 2)),
                    ((("ring", O), 1), (flute, 1), (lead, 3))]:
            for moved in range(3):
                other = list(one)
                by = (O, (1, 5))
                other[moved] = (line_moved(one[moved][0], by if one[moved][0][0] != "ring" else (HALF, O)), one[moved][1])
                for left_out in range(3):
                    two = [own for at, own in enumerate(one) if at != left_out]
                    other_two = [own for at, own in enumerate(other) if at != left_out]
                    self.assertTrue(self.check_led(band(*two), band(*other_two)), (one, other, left_out))
                self.assertFalse(self.check_led(band(*one), band(*other)), (one, other))

    def test_rings_and_flutes_and_nothing(self):
        rings, flutes = band((("ring", O), 1), (("ring", HALF), 2)), band((("flute", O), 1), (("flute", HALF), 1))
        self.assertTrue(self.check_led(rings, band((("ring", (7, 2)), 2), (("ring", THREE), 1))))
        self.assertFalse(self.check_led(rings, band((("ring", (7, 2)), 1), (("ring", THREE), 2))))
        self.assertFalse(self.check_led(rings, rings[:1]))
        self.assertTrue(self.check_led(flutes, band((("flute", (1, 3)), 1), (("flute", (5, 6)), 1))))
        self.assertFalse(self.check_led(flutes, band((("flute", (1, 3)), 1), (("flute", (2, 3)), 1))))
        self.assertTrue(self.check_led((), ()))
        self.assertFalse(self.check_led((), rings))
        self.assertFalse(self.check_led(flutes, rings))
        self.assertFalse(self.check_led(flutes, ()))
        for motion in GRID[::11]:
            self.assertIs(is_motion_between((), (), motion), True)

    def test_all_motions_are_one_behind_those_that_keep_it(self):
        for one in BANDS:
            motion = motion_between(one, band_moved(one, ((5, 4), (1, 3))))
            for keeps in made_of(motions_of(one), 1):
                both = motion_put(keeps, motion)
                self.assertIs(is_motion_between(one, band_moved(one, ((5, 4), (1, 3))), both), True)

    def test_far_apart(self):
        one = band((("lead", (7, 1000), O), 1), (("lead", (-9, 997), O), 1), (("flute", O), 1))
        other = band_moved(one, ((-999999, 1000), (1, 997)))
        self.assertEqual(band_moved(one, motion_between(one, other)), other)

    def test_mirrors(self):
        bands = BANDS[:14] + some_bands(25)
        for one, other in product(bands, bands):
            mirror = band(*[(line_mirrored(line), depth) for line, depth in one])
            if led_by_hand(mirror, other):
                motion = mirror_between(one, other)
                self.assertEqual(band_moved(mirror, motion), other)
                self.assertIs(is_mirror_between(one, other, motion), True)
            else:
                self.assertRaises(NoPaper, mirror_between, one, other)
        for one in bands:
            signs = {told(line[1]) > 0 for line, _ in one if line[0] == "lead"}
            if len(signs) == 1:
                self.assertRaises(NoPaper, mirror_between, one, one)

    def test_is_motion_between(self):
        one, other = band((RIGHT, 1), (LEFT, 2)), band((LATE, 1), (LEFT, 2))
        fits = [motion for motion in GRID if band_moved(one, motion) == other]
        self.assertGreater(len(fits), 3)
        for motion in GRID:
            self.assertIs(is_motion_between(one, other, motion), motion in fits)
        mirror = band(*[(line_mirrored(line), depth) for line, depth in one])
        fits = [motion for motion in GRID if band_moved(mirror, motion) == band((RIGHT, 2), (LEFT, 1))]
        self.assertGreater(len(fits), 3)
        for motion in GRID:
            self.assertIs(is_mirror_between(one, band((RIGHT, 2), (LEFT, 1)), motion), motion in fits)

    def test_things_that_are_no_motions(self):
        for things in (STRANGE, [((2, 2), O), (ONE, (2, 4)), (ONE, ONE), ((True, 1), O), (ONE, (False, 1)), [ONE, O],
                                 (ONE, [0, 1]), (ONE, O, O), (ONE,), ((1, 0), O), (ONE, (-1, 2)), (ONE, (3, 2))],
                       spoiled((ONE, O))):
            for thing in things:
                for ask in (is_motion_between, is_mirror_between):
                    self.assertIs(ask((), (), thing), False, thing)
                    self.assertIs(ask(((KEY, 1),), ((KEY, 1),), thing), False, thing)


def turned_by_hand(bar, turn):
    return (bar[0], tuple(sorted((line_moved(own[0], (O, pair(turn))),) + own[1:] for own in bar[1])))


def same_points(one, other):
    return one[0] == other[0] and all(depth_by_hand(one, *own) == depth_by_hand(other, *own)
                                      for own in looked_at(one, other))


TURNS = [Fraction(number, 24) for number in range(24)]
SHORT_BARS = [(THREE, ((RIGHT, O, THREE, 1),)), (THREE, ((RIGHT, O, TWO, 1),)), (THREE, ((RIGHT, ONE, THREE, 1),)),
              (THREE, ((LATE, O, THREE, 1),)), (THREE, ((LEFT, O, THREE, 1),)), (TWO, ((RIGHT, O, TWO, 1),)),
              (THREE, ((RIGHT, O, ONE, 1), (RIGHT, ONE, THREE, 1))), (THREE, ((RIGHT, O, ONE, 2), (RIGHT, ONE, THREE, 1))),
              (THREE, ((LATE, O, TWO, 1), (LATE, TWO, THREE, 2))), (THREE, ((LEFT, O, ONE, 2), (LEFT, ONE, THREE, 1))),
              (THREE, ((("ring", TWO), TWO, TWO, 1),)), (THREE, ((("ring", ONE), ONE, ONE, 1),)), (THREE, ()), (TWO, ()),
              (THREE, ((KEY, O, THREE, 2), (RIGHT, O, THREE, 1))),
              (THREE, ((("flute", O), O, THREE, 2), (("flute", HALF), O, THREE, 2))),
              (THREE, ((LEFT, O, THREE, 1), (RIGHT, O, THREE, 1))),
              (THREE, ((LEFT, O, THREE, 2), (RIGHT, O, THREE, 1))), (THREE, ((KEY, O, ONE, 1),)),
              (THREE, ((("flute", O), TWO, THREE, 1),)),
              (THREE, tuple(sorted([(RIGHT, O, THREE, 1), (NECK, TWO, TWO, 1)]))),
              (THREE, tuple(sorted([(LATE, O, THREE, 1), (("ring", ONE), ONE, ONE, 1)])))]


class Bars(unittest.TestCase):
    def check_turns(self, one, other):
        fits = [turn for turn in TURNS + [Fraction(1, 7919)] if same_points(turned_by_hand(one, turn), other)]
        told_turns = turns_between(one, other)
        if len(fits) == 25:
            self.assertEqual(told_turns, "all")
        else:
            self.assertEqual(told_turns, tuple(sorted(pair(turn) for turn in fits)), (one, other))
        return bool(fits)

    def test_turns(self):
        turned = 0
        for one, other in product(SHORT_BARS, SHORT_BARS):
            turned += self.check_turns(one, other)
        self.assertGreater(turned, len(SHORT_BARS))

    def test_turns_of_some_bars(self):
        for number, bar in enumerate(some_bars(25, 4, 3)):
            other = turned_by_hand(plain_bar(bar), TURNS[number % 24])
            self.check_turns(bar, other)
            self.check_turns(bar, ends_exchanged(bar))
            turns = turns_between(bar, other)
            self.assertTrue(turns == "all" or pair(TURNS[number % 24]) in turns)

    def test_set_is_ordered_by_the_pairs(self):
        flutes = (THREE, tuple(sorted((("flute", pair(Fraction(own, 6))), O, THREE, 1) for own in range(6))))
        self.assertEqual(turns_between(flutes, flutes), ((0, 1), (1, 2), (1, 3), (1, 6), (2, 3), (5, 6)))

    def test_ends_exchanged(self):
        for bar in SHORT_BARS + some_bars(40, 5, 9):
            other, length = ends_exchanged(bar), told(bar[0])
            self.assertTrue(is_bar(other) and is_plain(other))
            self.assertEqual(other[0], bar[0])
            for place, angle in looked_at(bar):
                self.assertEqual(depth_by_hand(other, length - place, -angle % 1), depth_by_hand(bar, place, angle))
            for place, angle in looked_at(other):
                self.assertEqual(depth_by_hand(bar, length - place, -angle % 1), depth_by_hand(other, place, angle))
            self.assertEqual(ends_exchanged(other), plain_bar(bar))

    def test_mirrored(self):
        for bar in SHORT_BARS + some_bars(40, 5, 9):
            other = bar_mirrored(bar)
            self.assertTrue(is_bar(other) and is_plain(other))
            self.assertEqual(other[0], bar[0])
            for place, angle in looked_at(bar):
                self.assertEqual(depth_by_hand(other, place, -angle % 1), depth_by_hand(bar, place, angle))
            for place, angle in looked_at(other):
                self.assertEqual(depth_by_hand(bar, place, -angle % 1), depth_by_hand(other, place, angle))
            self.assertEqual(bar_mirrored(other), plain_bar(bar))

    def alike_by_hand(self, one, other):
        ways = [one, ends_exchanged(one)]
        return any(same_points(turned_by_hand(own, turn), other) for own in ways for turn in TURNS)

    def test_alike(self):
        for one, other in product(SHORT_BARS, SHORT_BARS):
            self.assertIs(alike_bars(one, other), self.alike_by_hand(one, other), (one, other))
            self.assertIs(alike_bars(one, other), alike_bars(other, one))

    def test_alike_in_one_way_alone(self):
        screw, end = SHORT_BARS[0], SHORT_BARS[1]
        late = (THREE, ((LATE, O, TWO, 1),))
        self.assertEqual((alike_bars(end, late), turns_between(end, ends_exchanged(late))), (True, ()))
        self.assertEqual((alike_bars(end, ends_exchanged(end)), turns_between(end, ends_exchanged(end))), (True, ()))
        self.assertIs(alike_bars(screw, bar_mirrored(screw)), False)
        self.assertIs(alike_bars(end, screw), False)
        self.assertIs(alike_bars(screw, (TWO, ((RIGHT, O, TWO, 1),))), False)
        self.assertIs(alike_bars((TWO, ()), (THREE, ())), False)
        self.assertIs(alike_bars((TWO, ()), (TWO, ())), True)

    def test_handed(self):
        for bar in SHORT_BARS + some_bars(25, 3, 2):
            self.assertIs(is_handed(bar), not self.alike_by_hand(bar, bar_mirrored(bar)), bar)
        # alike to its mirror only with the ends exchanged
        chased = (SIX, ((LEFT, O, TWO, 1), (RIGHT, (4, 1), SIX, 1)))
        self.assertEqual((is_handed(chased), turns_between(chased, bar_mirrored(chased))), (False, ()))


def depth_off(bar, place, angle):
    return depth_by_hand(bar, place, angle % 1) if 0 <= place <= told(bar[0]) else 0


class Parting(unittest.TestCase):
    def test_points_that_part(self):
        parted = 0
        for one, other in product(SHORT_BARS, SHORT_BARS):
            for turn in (Fraction(0), Fraction(1, 2), Fraction(1, 3)):
                longer = max(told(one[0]), told(other[0]))
                near, far = turned_by_hand((pair(longer), one[1]), turn), (pair(longer), other[1])
                if same_points(near, far):
                    self.assertRaises(NoPaper, parting_point, one, other, pair(turn))
                    continue
                parted += 1
                point = parting_point(one, other, pair(turn))
                place, angle = map(told, point)
                self.assertNotEqual(depth_off(one, place, angle - turn), depth_off(other, place, angle))
                self.assertIs(is_parting_point(one, other, pair(turn), point), True)
        self.assertGreater(parted, 500)

    def test_is_parting_point(self):
        for one, other in [(SHORT_BARS[0], SHORT_BARS[1]), (SHORT_BARS[0], SHORT_BARS[5]), (SHORT_BARS[5], SHORT_BARS[16]),
                           (SHORT_BARS[14], SHORT_BARS[17])]:
            for place, number, turn in product(range(-4, 16), range(12), TURNS[::6]):
                place, angle = Fraction(place, 4), Fraction(number, 12)
                parts = depth_off(one, place, angle - turn) != depth_off(other, place, angle)
                self.assertIs(is_parting_point(one, other, pair(turn), (pair(place), pair(angle))), parts)

    def test_off_the_shorter_one(self):
        short, long = (TWO, ((RIGHT, O, TWO, 1),)), (THREE, ((RIGHT, O, THREE, 1),))
        for one, other in [(short, long), (long, short)]:
            self.assertIs(is_parting_point(one, other, O, ((5, 2), HALF)), True)
            self.assertIs(is_parting_point(one, other, O, ((7, 2), HALF)), False)
            self.assertIs(is_parting_point(one, other, O, ((-1, 2), HALF)), False)
        self.assertRaises(NoPaper, parting_point, (TWO, ()), (THREE, ()), HALF)
        self.assertRaises(NoPaper, parting_point, short, (THREE, ((RIGHT, O, TWO, 1),)), O)

    def test_things_that_are_no_points(self):
        one, other = SHORT_BARS[0], SHORT_BARS[12]
        self.assertIs(is_parting_point(one, other, O, (ONE, O)), True)
        for thing in STRANGE + spoiled((ONE, O)) + [((2, 2), O), [ONE, O], (ONE, [0, 1]), (ONE, ONE), ((True, 1), O)]:
            self.assertIs(is_parting_point(one, other, O, thing), False, thing)


if __name__ == "__main__":
    unittest.main()
