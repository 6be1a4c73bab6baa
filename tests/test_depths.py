"""[15]: depths, worn away step by step."""

import unittest
from fractions import Fraction
from itertools import combinations, product

from screwshop.bars import is_bar, is_plain, plain_bar
from screwshop.depths import (bar_at, barring_depth, crossing_depths, crossing_way, deepened, is_crossing_way, join_rows,
                              land_rows, least_crossed, levels_of, needless_grooves, worn_bar)
from screwshop.errors import NoGroove, TooMany, Unfit
from screwshop.lands import goes_along, how_many_lands, land_at, lands_of, neighbours_of, parted_by, same_land
from tests.support import STRANGE, spoiled
from tests.test_bars import depth_by_hand, looked_at
from tests.test_bars import BARS as OTHER_BARS
from tests.test_crossings import meets_by_hand
from tests.test_lands import BARS, FLUTE, LEFT, OTHER, RIGHT, a_bar, ring
from tests.test_lines import pair, told

O, HALF, ONE, TWO, THREE = (0, 1), (1, 2), (1, 1), (2, 1), (3, 1)
# at (1, 1/2) GROOVES of depths 1 and 3 of one flute end, and a thread of depth 2 goes through
JOINT = a_bar(TWO, (OTHER, O, ONE, 1), (OTHER, ONE, TWO, 3), (("lead", TWO, O), O, TWO, 2))
# a ring at an end, flutes that do not come to it
RINGED = a_bar(TWO, ring(O, 2), ring(ONE, 1), ring((3, 2), 4), (FLUTE, HALF, TWO, 3), (OTHER, HALF, TWO, 1))
FENCED = a_bar(TWO, ring(O, 3), ring(TWO, 2), ring(ONE, 1))


def greatest(bar):
    return max([0] + [groove[3] for groove in bar[1]])


def points_of(bar, many=7):
    """Some POINTS without depth."""
    length = told(bar[0])
    points = [(length * Fraction(at, 5), Fraction(by, 9) + Fraction(1, 60)) for at in range(6) for by in (0, 2, 5, 7)]
    points = [own for own in points if not depth_by_hand(bar, *own)]
    return [(pair(place), pair(angle)) for place, angle in points][::max(1, len(points) // many)]


class Worn(unittest.TestCase):
    def check_depths(self, made, bar, depth_for):
        self.assertTrue(is_bar(made) and is_plain(made))
        self.assertEqual(made[0], bar[0])
        for place, angle in looked_at(bar, made):
            self.assertEqual(depth_by_hand(made, place, angle), depth_for(depth_by_hand(bar, place, angle)))

    def test_worn(self):
        for bar in BARS[::2] + OTHER_BARS[:16]:
            for by in (0, 1, 2, 3, 20):
                self.check_depths(worn_bar(bar, by), bar, lambda depth: max(0, depth - by))
                self.assertEqual(worn_bar(worn_bar(bar, by), 1), worn_bar(bar, by + 1))
            self.assertEqual(worn_bar(bar, 0), plain_bar(bar))
            self.assertEqual(worn_bar(bar, greatest(bar)), (bar[0], ()))

    def test_bar_at(self):
        for bar in BARS[::2] + OTHER_BARS[:16]:
            for least in (1, 2, 3, 4):
                made = bar_at(bar, least)
                self.assertTrue(is_bar(made) and is_plain(made))
                kept = (bar[0], tuple(groove for groove in plain_bar(bar)[1] if groove[3] >= least))
                self.assertEqual(made, kept)

    def test_deepened(self):
        for bar in BARS[::2] + OTHER_BARS[:16]:
            plain = plain_bar(bar)
            for number, (line, start, end, depth) in enumerate(plain[1]):
                for by in (1, 2, 17):
                    deeper = (line, start, end, depth + by)
                    self.check_depths(deepened(bar, number, by), (bar[0], tuple(sorted({*plain[1], deeper}))), int)
            for number in (-1, len(plain[1]), 10 ** 40):
                with self.assertRaises(NoGroove) as caught:
                    deepened(bar, number, 1)
                self.assertEqual(caught.exception.number, number)

    def test_deepened_to_the_depth_beside(self):
        bar = a_bar(TWO, (FLUTE, O, ONE, 1), (FLUTE, ONE, TWO, 3))
        self.assertEqual(deepened(bar, 0, 2), (TWO, ((FLUTE, O, TWO, 3),)))
        # numbers are those of the plain BAR
        twice = a_bar(TWO, (FLUTE, O, ONE, 1), (FLUTE, HALF, TWO, 1), ring(ONE))
        self.assertEqual(deepened(twice, 1, 4), a_bar(TWO, (FLUTE, O, TWO, 1), ring(ONE, 5)))
        self.assertRaises(NoGroove, deepened, twice, 2, 1)

    def test_levels(self):
        for bar in BARS[::2] + OTHER_BARS[:16]:
            depths = {depth_by_hand(bar, *own) for own in looked_at(bar)} - {0}
            self.assertEqual(levels_of(bar), tuple(sorted(depths)))
        self.assertEqual(levels_of(a_bar(TWO, (FLUTE, O, TWO, 3), (FLUTE, HALF, ONE, 2), ring(ONE, 9), ring(ONE, 7))), (3, 9))

    def test_needless(self):
        some = 0
        for bar in OTHER_BARS:
            needless = []
            for number in range(len(bar[1])):
                left = (bar[0], bar[1][:number] + bar[1][number + 1:])
                if all(depth_by_hand(left, *own) == depth_by_hand(bar, *own) for own in looked_at(bar)):
                    needless.append(number)
            self.assertEqual(needless_grooves(bar), tuple(needless))
            some += len(needless)
        self.assertGreater(some, 10)
        # two of which each is needless beside the other
        self.assertEqual(needless_grooves(a_bar(TWO, (FLUTE, O, ONE, 1), (FLUTE, O, (3, 2), 1), (FLUTE, HALF, TWO, 1))), (0, 1))


class Rows(unittest.TestCase):
    def test_land_rows(self):
        for bar in BARS + [JOINT, RINGED, FENCED]:
            rows = [(wear, how_many_lands(worn_bar(bar, wear))) for wear in range(greatest(bar) + 1)]
            self.assertEqual(land_rows(bar), rows)
        self.assertEqual(land_rows((TWO, ())), [(0, 1)])
        self.assertEqual(land_rows(a_bar(TWO, ring(ONE, 20))), [(own, 2) for own in range(20)] + [(20, 1)])

    def test_join_rows(self):
        for bar in BARS + [JOINT, RINGED, FENCED]:
            rows = []
            for wear in range(greatest(bar) + 1):
                worn, lands = worn_bar(bar, wear), {}
                for mark in lands_of(bar):
                    lands.setdefault(land_at(worn, mark), []).append(mark)
                rows.append(sorted(tuple(sorted(marks)) for marks in lands.values()))
            self.assertEqual(join_rows(bar), rows)

    def test_crossing_depths(self):
        for bar in BARS + [JOINT, RINGED, FENCED]:
            plain = plain_bar(bar)
            rows = [((pair(place), pair(angle)), tuple(sorted({plain[1][number][3] for number in numbers})))
                    for (place, angle), numbers in meets_by_hand(plain)]
            self.assertEqual(crossing_depths(bar), sorted(rows))
        self.assertIn(((ONE, HALF), (1, 2, 3)), crossing_depths(JOINT))


class Ways(unittest.TestCase):
    bars = BARS[:19] + BARS[19::3] + [JOINT, RINGED, FENCED]

    def test_least_crossed(self):
        some = {}
        for bar in self.bars:
            for near, far in product(points_of(bar), points_of(bar)):
                depth = least_crossed(bar, near, far)
                some[depth] = some.get(depth, 0) + 1
                self.assertIs(same_land(worn_bar(bar, depth), near, far), True)
                if depth:
                    self.assertIs(same_land(worn_bar(bar, depth - 1), near, far), False)
        self.assertLessEqual({0, 1, 2, 3}, set(some))

    def test_the_two_greatest_of_three_are_equal(self):
        for bar in self.bars[::2]:
            for three in combinations(points_of(bar, 5), 3):
                depths = sorted(least_crossed(bar, *two) for two in combinations(three, 2))
                self.assertEqual(depths[1], depths[2])

    def test_crossing_way(self):
        for bar in self.bars:
            for near, far in product(points_of(bar, 4), points_of(bar, 4)):
                way, depth = crossing_way(bar, near, far), least_crossed(bar, near, far)
                self.assertTrue(self.is_way(bar, near, far, depth, way))
                self.assertIs(is_crossing_way(bar, near, far, depth, way), True)
                self.assertIs(is_crossing_way(bar, near, far, 20, way), True)
                if depth:
                    self.assertIs(is_crossing_way(bar, near, far, depth - 1, way), False)

    def is_way(self, bar, near, far, depth, way):
        grooves = plain_bar(bar)[1]
        if not isinstance(way, tuple) or (way[0], way[-1]) != (land_at(bar, near), land_at(bar, far)):
            return False
        return all(other in neighbours_of(bar, one) and any(grooves[own][3] <= depth for own in parted_by(bar, one, other))
                   for one, other in zip(way, way[1:]))

    def test_is_crossing_way(self):
        some = 0
        for bar in [JOINT, RINGED, FENCED, BARS[8], BARS[11], BARS[15]]:
            marks, points = lands_of(bar), points_of(bar, 3)
            for near, far in [(points[0], points[-1]), (points[-1], points[-1])]:
                for length in (1, 2, 3):
                    for way in list(product(marks, repeat=length))[:40]:
                        for depth in (0, 1, 3):
                            fits = self.is_way(bar, near, far, depth, way)
                            self.assertIs(is_crossing_way(bar, near, far, depth, way), fits)
                            some += fits
        self.assertGreater(some, 20)

    def test_there_and_back_and_there(self):
        low, middle, high = [land_at(FENCED, (place, O)) for place in (HALF, HALF, (3, 2))]
        self.assertIs(is_crossing_way(FENCED, (HALF, O), ((3, 2), O), 1, (low, high, low, high)), True)
        self.assertIs(is_crossing_way(FENCED, (HALF, O), ((3, 2), O), 1, (low, middle, high)), False)
        self.assertIs(is_crossing_way(FENCED, (HALF, O), ((3, 2), O), 0, (low, high)), False)
        self.assertIs(is_crossing_way(FENCED, (HALF, O), (HALF, (1, 3)), 0, (low,)), True)
        self.assertIs(is_crossing_way(FENCED, (HALF, O), (HALF, (1, 3)), 0, (high,)), False)

    def test_across_a_joint(self):
        # at the joint it is 3 deep, beside it 1, 2
        near, far = (HALF, (7, 16)), (HALF, (9, 16))
        self.assertEqual(least_crossed(JOINT, near, far), 1)
        self.assertEqual(least_crossed(JOINT, ((3, 2), (7, 16)), ((3, 2), (9, 16))), 2)
        self.assertEqual(least_crossed(JOINT, (HALF, (1, 8)), (HALF, (3, 8))), 1)

    def test_things_that_are_no_ways(self):
        near, far = (HALF, O), ((3, 2), O)
        way = crossing_way(FENCED, near, far)
        self.assertEqual(way, (land_at(FENCED, near), land_at(FENCED, far)))
        for thing in STRANGE + spoiled(way) + [(), list(way), tuple(map(list, way)), way[:1], way[1:], way[::-1], way + way[:1],
                                               (way[0], way[0], way[1]), way[0], (way,), ((HALF, O), far)]:
            if repr(thing) != repr(way):
                self.assertIs(is_crossing_way(FENCED, near, far, 20, thing), False, thing)

    def test_barring(self):
        some = set()
        for bar in BARS + [JOINT, RINGED, FENCED]:
            least = [wear for wear in range(greatest(bar) + 1) if goes_along(worn_bar(bar, wear))][0]
            self.assertEqual(barring_depth(bar), least, bar)
            some.add(least)
        self.assertLessEqual({0, 1, 2, 3}, some)
        self.assertEqual([barring_depth(own) for own in (FENCED, RINGED, a_bar(TWO, ring(O, 1)), a_bar(TWO, ring(TWO, 7)))],
                         [3, 4, 1, 7])
        self.assertEqual(barring_depth(a_bar(TWO, (RIGHT, O, ONE, 5), (LEFT, O, ONE, 2))), 2)
        self.assertEqual(barring_depth((TWO, ())), 0)


class Errors(unittest.TestCase):
    def test_points_beyond_the_ends_and_with_depth(self):
        for bar in (BARS[8], FENCED):
            for bad in [((-1, 2), O), ((5, 2), O), (ONE, O)]:
                for near, far in [(bad, (HALF, (1, 7))), ((HALF, (1, 7)), bad)]:
                    self.assertRaises(Unfit, least_crossed, bar, near, far)
                    self.assertRaises(Unfit, crossing_way, bar, near, far)
                    for thing in STRANGE + [(near, far)]:
                        self.assertRaises(Unfit, is_crossing_way, bar, near, far, 1, thing)

    def test_too_many(self):
        length = (239, 1)
        for end, many in (((158, 1), False), ((159, 1), True)):
            bar = a_bar(length, (FLUTE, O, length, 1), (RIGHT, O, length, 2), (OTHER, O, end, 1))
            near, far, deep = (HALF, (1, 7)), ((9, 2), (1, 3)), (HALF, O)
            calls = [(land_rows, bar), (crossing_depths, bar), (least_crossed, bar, near, far), (crossing_way, bar, near, far),
                     (join_rows, bar), (barring_depth, bar), (is_crossing_way, bar, near, far, 1, None)]
            for call in calls:
                if many:
                    self.assertRaises(TooMany, *call)
                else:
                    call[0](*call[1:])
            # POINTS that do not do come ahead of it, and what stands ahead of crossing_depths does not look
            self.assertRaises(Unfit, least_crossed, bar, deep, far)
            self.assertRaises(Unfit, crossing_way, bar, near, deep)
            self.assertRaises(Unfit, is_crossing_way, bar, near, ((240, 1), O), 1, None)
            self.assertEqual((levels_of(bar), needless_grooves(bar)), ((1, 2), ()))
            self.assertEqual(bar_at(bar, 2), a_bar(length, (RIGHT, O, length, 2)))
            self.assertEqual(worn_bar(bar, 1), a_bar(length, (RIGHT, O, length, 1)))
            self.assertEqual(deepened(bar, 1, 1), a_bar(length, (FLUTE, O, length, 1), (RIGHT, O, length, 2), (OTHER, O, end, 2)))


if __name__ == "__main__":
    unittest.main()
