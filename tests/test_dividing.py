"""[20]: circles of holes, turned hole by hole; all powers, all pairs of circles tried."""

import random
import unittest
from fractions import Fraction
from itertools import product

from screwshop.dials import closings_apart, how_many_lines, line_at_count
from screwshop.dividing import (circles_for, closes_round, compound_for, holes_moved, is_compound, is_no_circles, is_plate,
                                no_circles)
from screwshop.errors import NoPaper, Unfit
from screwshop.lines import line_moved
from screwshop.motions import has_motion, motions_of
from tests.support import STRANGE, deep, spoiled
from tests.test_lines import pair

HEAD, PAIR = (40, (15, 16, 18, 21)), (40, (15, 16))
PLATES = [HEAD, PAIR, (40, (1,)), (1, (1,)), (40, (15,)), (60, (24, 30, 54)), (5, (8, 12, 18)), (7, (1, 2, 3, 4, 5, 6)), (1, (49, 121)),
          (90, (2, 9, 27)), (40, (17, 19, 23, 29, 31, 37, 41, 43, 47, 49))]
MANY = list(range(1, 75)) + [97, 128, 144, 360, 720, 2 ** 4 * 3 ** 3 * 5 * 7, 999983, 10 ** 6, 510510]


def prime_powers(many):
    """The powers of one prime among the divisors of many, by trial."""
    found = []
    for number in [own for own in range(2, min(many, 5000) + 1) if many % own == 0] + [many] * (many > 5000):
        primes = {own for own in range(2, min(number, 1100) + 1) if number % own == 0 and all(own % less for less in range(2, own))}
        left = number
        for prime in primes:
            while left % prime == 0:
                left //= prime
        if (len(primes), left) == (1, 1) or (not primes and left > 1):
            found.append(number)
    return sorted(set(found))


def lacks(plate, many, circle, power):
    return many % power == 0 and plate[0] * circle % power != 0


class Shapes(unittest.TestCase):
    def test_what_a_plate_is(self):
        for plate in PLATES + [(10 ** 40, (1, 10 ** 40)), (1, tuple(range(1, 300)))]:
            self.assertIs(is_plate(plate), True, plate)

    def test_what_no_plate_is(self):
        for thing in STRANGE + [
                (40, (16, 15)), (40, (15, 15)), (40, ()), (0, (15,)), (-1, (15,)), (40, (0, 15)), (40, (-15,)), (40, [15, 16]),
                [40, (15, 16)], (40, 15), (40, (15, (16,))), (True, (15,)), (40, (True, 15)), (40,), (40, (15,), 1), ((40,), (15,)),
                (40, ("15",)), (40, (None,)), ("40", (15,)), (40, (15, True)), deep((40, (15,)), 10, tuple)]:
            self.assertIs(is_plate(thing), False, thing)
        for thing in spoiled((40, (15, 16, 18))):
            self.assertIs(is_plate(thing), False, thing)


class Circles(unittest.TestCase):
    def test_circles_and_holes(self):
        some = {True: 0, False: 0}
        for plate, many in product(PLATES, MANY):
            step, fits = Fraction(plate[0], many), []
            for circle in plate[1]:
                whole = (step * circle).denominator == 1
                some[whole] += 1
                if whole:
                    fits.append(circle)
                    turns, holes = holes_moved(plate, many, circle)
                    self.assertEqual(turns + Fraction(holes, circle), step)
                    self.assertTrue(0 <= holes < circle and turns >= 0)
                    self.assertIsInstance(holes_moved(plate, many, circle), tuple)
                else:
                    self.assertRaises(Unfit, holes_moved, plate, many, circle)
            self.assertEqual(circles_for(plate, many), tuple(fits))
        self.assertTrue(min(some.values()) > 200, some)

    def test_circles_that_are_none_of_the_plate(self):
        for circle in (30, 1, 14):
            self.assertRaises(Unfit, holes_moved, PAIR, 40, circle)

    def test_no_lists(self):
        some = {True: 0, False: 0}
        for plate, many in product(PLATES, MANY):
            powers = prime_powers(many)
            fits = [[power for power in powers if lacks(plate, many, circle, power)] for circle in plate[1]]
            there = all(fits)
            some[there] += 1
            # never both: a circle in whose holes the step is whole, and the NO LIST
            self.assertIs(there, circles_for(plate, many) == ())
            if there:
                least = tuple(min(own) for own in fits)
                self.assertEqual(no_circles(plate, many), least)
                self.assertIs(is_no_circles(plate, many, least), True)
                self.assertIs(is_no_circles(plate, many, tuple(max(own) for own in fits)), True)
            else:
                self.assertRaises(NoPaper, no_circles, plate, many)
            self.check_lists(plate, many, powers)
        self.assertTrue(min(some.values()) > 100, some)

    def check_lists(self, plate, many, powers):
        chance = random.Random(many)
        for _ in range(8):
            thing = tuple(chance.choice(powers + [1, 0, -2, 6, 12, many, many * many, 10 ** 40]) for _ in plate[1])
            so = all(power in powers and lacks(plate, many, circle, power) for power, circle in zip(thing, plate[1]))
            self.assertIs(is_no_circles(plate, many, thing), so, thing)

    def test_several_primes_and_their_powers(self):
        plate = (1, (4, 9, 36, 8))
        self.assertEqual(no_circles(plate, 72 * 5), (3, 2, 5, 3))
        self.assertEqual(no_circles(plate, 72), (3, 2, 8, 3))
        self.assertEqual([is_no_circles(plate, 72, own) for own in ((9, 2, 8, 3), (9, 8, 8, 9), (3, 4, 8, 9), (3, 6, 8, 3), (8, 2, 8, 3), (3, 2, 4, 3), (3, 2, 8))],
                         [True, True, True, False, True, False, False])

    def test_things_that_are_no_lists(self):
        self.assertIs(is_no_circles(PAIR, 9, (9, 3)), True)
        for thing in STRANGE + spoiled((9, 3), False) + [[9, 3], (9,), (9, 3, 3), (3, 3), (9, -3), (9, 1), (9, True), (18, 9), (27, 3), (9, 9, 9), "93"]:
            self.assertIs(is_no_circles(PAIR, 9, thing), False, thing)
        for thing in STRANGE + [(3, 3), (2, 2), (1, 1)]:
            self.assertIs(is_no_circles(PAIR, 40, thing), False, thing)
            self.assertIs(is_no_circles((1, (1,)), 1, thing), False, thing)


class Compounds(unittest.TestCase):
    def test_compounds(self):
        some = {True: 0, False: 0}
        for plate, many in product(PLATES, MANY):
            found = self.all_of(plate, many)
            some[bool(found)] += 1
            self.assertIs(bool(found), self.is_told(plate, many))
            if found:
                self.assertEqual(compound_for(plate, many), min(found))
                for compound in found[:30]:
                    self.assertIs(is_compound(plate, many, compound), True)
                    self.check_beside(plate, many, compound)
            else:
                self.assertRaises(NoPaper, compound_for, plate, many)
        self.assertTrue(min(some.values()) > 100, some)

    def all_of(self, plate, many):
        found, step = [], Fraction(plate[0], many)
        for one, other in product(plate[1], plate[1]):
            if one < other:
                for ahead in range(one):
                    more = (step - Fraction(ahead, one)) * other
                    if more.denominator == 1:
                        found.append((one, other, ahead, int(more)))
        return found

    def is_told(self, plate, many):
        """The step is a whole multiple of a turn divided by the least number that two circles divide."""
        for one, other in product(plate[1], plate[1]):
            if one < other:
                least = next(own for own in range(other, one * other + 1, other) if own % one == 0)
                if plate[0] * least % many == 0:
                    return True
        return False

    def check_beside(self, plate, many, compound):
        one, other, ahead, more = compound
        for thing in [(one, other, ahead, more + 1), (one, other, ahead + one, more - other), (one, other, ahead - one, more + other),
                      (other, one, more, ahead), (one, other, ahead + 1, more), (one, one, 0, more), (one, other, ahead)]:
            self.assertIs(is_compound(plate, many, thing), False, thing)

    def test_more_below_0(self):
        below = [compound for plate, many in product(PLATES, MANY) for compound in self.all_of(plate, many) if compound[3] < 0]
        self.assertGreater(len(below), 100)
        self.assertEqual(compound_for((1, (2, 3)), 6), (2, 3, 1, -1))
        self.assertIs(is_compound((1, (2, 3)), 6, (2, 3, 1, -1)), True)

    def test_things_that_are_no_compounds(self):
        self.assertIs(is_compound(PAIR, 48, (15, 16, 5, 8)), True)
        for thing in STRANGE + spoiled((15, 16, 5, 8)) + [[15, 16, 5, 8], (15, 16, 5), (15, 16, 5, 8, 0), (30, 16, 10, 8), (15, 32, 5, 16), (15, 16, 20, -8), (3, 16, 1, 8), (15, 24, 5, 12), (3, 8, 1, 4)]:
            self.assertIs(is_compound(PAIR, 48, thing), False, thing)
        for thing in [(1, 2, False, 2), (True, 2, 0, 2), (1, 2, 0, True)]:
            self.assertIs(is_compound((1, (1, 2)), 1, thing), False, thing)
        self.assertIs(is_compound((1, (1, 2)), 1, (1, 2, 0, 2)), True)


class Rounds(unittest.TestCase):
    def test_closes_round(self):
        for worm, circles in [PAIR, (1, (1,)), (1, (7, 8)), (3, (6,)), (40, (1,))]:
            for circle, holes in product(circles, [1, 2, 3, 4, 9, 10, 40, 41, 999, 1000]):
                steps, turned = 1, Fraction(holes, circle * worm)
                while (turned * steps).denominator > 1:
                    steps += 1
                self.assertEqual(closes_round((worm, circles), circle, holes), (steps, int(turned * steps)))

    def test_circles_that_are_none(self):
        self.assertRaises(Unfit, closes_round, PAIR, 17, 1)
        self.assertRaises(Unfit, closes_round, (40, (1,)), 40, 1)


class WithOthers(unittest.TestCase):
    def test_lines_that_closings_cut_are_turned_into_one_another_by_parts(self):
        quarter = (1, 4)
        for train in [(((30, 20),), False), (((40, 10),), True), (((20, 30),), False), (((63, 60), (20, 50)), False)]:
            lathe = (quarter, train, (12, 4))
            many = how_many_lines(lathe)
            band = tuple(sorted((line_at_count(lathe, count), 1) for count in range(many)))
            # the work divided in as many parts turns each LINE into another one, all of them into themselves
            turn = pair(Fraction(1, many) % 1)
            self.assertEqual(tuple(sorted((line_moved(line, ((0, 1), turn)), depth) for line, depth in band)), band)
            self.assertIs(has_motion(motions_of(band), ((0, 1), turn)), True)
            fits = circles_for((40, tuple(range(1, 60))), many)
            self.assertTrue(many in fits or many == 1)
            for circle in fits:
                turns, holes = holes_moved((40, fits), many, circle)
                self.assertEqual((turns + Fraction(holes, circle)) / 40, Fraction(1, many))
            self.assertEqual(Fraction(*closings_apart(lathe)).numerator * many % Fraction(*closings_apart(lathe)).denominator, 0)


if __name__ == "__main__":
    unittest.main()
