"""[13]: crossings and meetings, counted one by one."""

import unittest
from fractions import Fraction
from itertools import combinations, permutations
from math import ceil, floor

from screwshop.crossings import (all_meetings, at_place, busiest, crossing_angles, crossings_between, gap_of, grooves_at,
                                 how_many, how_many_angles, lonely, meetings_on, next_meeting, nth_crossing, three_meet)
from screwshop.errors import NoGroove, TooMany
from tests.test_bars import BARS
from tests.test_lines import lies_on, pair, told

O, HALF, ONE, TWO, THREE, FOUR = (0, 1), (1, 2), (1, 1), (2, 1), (3, 1), (4, 1)
FAR = 10 ** 30
LINES = [("ring", O), ("ring", (5, 2)), ("ring", (-7, 3)), ("flute", O), ("flute", (1, 3)), ("lead", ONE, O),
         ("lead", ONE, HALF), ("lead", (-1, 1), O), ("lead", (-1, 1), (1, 3)), ("lead", (3, 2), (1, 4)),
         ("lead", (-5, 3), ONE), ("lead", (3, 7), (1, 7)), ("lead", (4, 1), (3, 1)), ("lead", (1, 3), O)]
PAIRS = list(permutations(LINES, 2))
SPANS = [(O, FOUR), ((-5, 2), (7, 3)), ((1, 7), (1, 7)), (O, O), ((5, 2), (5, 2)), ((-7, 3), (-1, 3)), ((1, 3), (1, 2))]


def turn_at(line, place):
    """The angle of a line that is no ring, counted on, at a place."""
    return told(line[1]) if line[0] == "flute" else (place - told(line[2])) / told(line[1])


def crossings_by_hand(one, other, low, high):
    """The pairs of Fractions of all crossings with places from low to high."""
    rings = [line for line in (one, other) if line[0] == "ring"]
    if len(rings) == 2:
        return []
    if rings:
        place = told(rings[0][1])
        rest = other if rings[0] == one else one
        return [(place, turn_at(rest, place) % 1)] if low <= place <= high else []
    ends = [turn_at(one, place) - turn_at(other, place) for place in (Fraction(0), Fraction(1))]
    if ends[0] == ends[1]:
        return []
    drift = ends[1] - ends[0]
    gone = sorted(ends[0] + drift * place for place in (low, high))
    places = sorted((number - ends[0]) / drift for number in range(ceil(gone[0]), floor(gone[1]) + 1))
    return [(place, turn_at(one, place) % 1) for place in places]


def points(pairs):
    return [(pair(place), pair(angle)) for place, angle in pairs]


class Crossings(unittest.TestCase):
    def test_by_hand_is_word_by_word(self):
        for one, other in PAIRS:
            for place, angle in crossings_by_hand(one, other, Fraction(-4), Fraction(4)):
                self.assertTrue(lies_on(one, place, angle) and lies_on(other, place, angle))

    def test_between_and_how_many(self):
        for one, other in PAIRS:
            for start, end in SPANS:
                some = points(crossings_by_hand(one, other, told(start), told(end)))
                self.assertEqual(crossings_between(one, other, start, end), some)
                self.assertEqual(how_many(one, other, start, end), len(some))

    def test_ends_are_included(self):
        for one, other in PAIRS:
            some = points(crossings_by_hand(one, other, Fraction(0), Fraction(9)))
            for (place, _), (last, _) in zip(some, some[1:]):
                self.assertEqual([own for own, _ in crossings_between(one, other, place, last)], [place, last])
                self.assertEqual(how_many(one, other, place, place), 1)

    def test_gap(self):
        for one, other in PAIRS:
            some = crossings_by_hand(one, other, Fraction(-40), Fraction(40))
            gaps = {later[0] - place[0] for place, later in zip(some, some[1:])}
            self.assertEqual(gap_of(one, other), pair(gaps.pop()) if gaps else None)
            self.assertFalse(gaps)

    def test_nth(self):
        for one, other in PAIRS:
            for start in (O, (7, 3), (-7, 3), (5, 2), (1, 7)):
                some = points(crossings_by_hand(one, other, told(start), told(start) + 40))
                for count in (0, 1, 2, 5):
                    if count < len(some):
                        self.assertEqual(nth_crossing(one, other, start, count), some[count])
                    elif not some or "ring" in (one[0], other[0]):
                        self.assertIsNone(nth_crossing(one, other, start, count))

    def test_far(self):
        for one, other in PAIRS:
            gap, first = gap_of(one, other), nth_crossing(one, other, (-FAR, 7), 0)
            if gap is None:
                self.assertIsNone(nth_crossing(one, other, (-FAR, 7), FAR))
                self.assertEqual(how_many(one, other, (-FAR, 1), (FAR, 1)), int("ring" in (one[0], other[0]) and one[0] != other[0]))
                self.assertEqual(nth_crossing(one, other, (FAR, 7), 0), None)
                continue
            place, angle = map(told, nth_crossing(one, other, (-FAR, 7), FAR))
            self.assertTrue(lies_on(one, place, angle) and lies_on(other, place, angle))
            self.assertEqual(place, told(first[0]) + FAR * told(gap))
            self.assertTrue(Fraction(-FAR, 7) <= told(first[0]) < Fraction(-FAR, 7) + told(gap))
            self.assertEqual(how_many(one, other, (-FAR, 7), pair(place)), FAR + 1)
            self.assertEqual(how_many(one, other, (-FAR, 7), pair(place - Fraction(1, FAR))), FAR)
            self.assertEqual(crossings_between(one, other, pair(place), pair(place)), points([(place, angle)]))

    def test_too_many(self):
        right, flute = ("lead", ONE, O), ("flute", O)
        self.assertEqual(len(crossings_between(right, flute, ONE, (400, 1))), 400)
        self.assertRaises(TooMany, crossings_between, right, flute, O, (400, 1))
        self.assertRaises(TooMany, crossings_between, right, flute, O, (FAR, 1))
        self.assertEqual(how_many(right, flute, O, (400, 1)), 401)


class Angles(unittest.TestCase):
    def test_angles(self):
        for one, other in PAIRS:
            angles = sorted({angle for _, angle in crossings_by_hand(one, other, Fraction(-60), Fraction(60))})
            self.assertEqual(crossing_angles(one, other), [pair(angle) for angle in angles])
            self.assertEqual(how_many_angles(one, other), len(angles))

    def test_order_is_by_what_they_stand_for(self):
        self.assertEqual(crossing_angles(("lead", THREE, O), ("lead", (3, 7), (1, 7)))[:4], [(1, 18), (2, 9), (7, 18), (5, 9)])

    def test_too_many(self):
        slow = ("lead", ONE, O)
        for many in (400, 401):
            # at each next crossing the slow one is 1 by many of a turn farther
            other = ("lead", (1, many + 1), O)
            self.assertEqual(how_many_angles(slow, other), many)
            if many == 400:
                self.assertEqual(crossing_angles(slow, other), [pair(Fraction(own, 400)) for own in range(400)])
            else:
                self.assertRaises(TooMany, crossing_angles, slow, other)
        self.assertEqual(crossing_angles(slow, ("lead", ONE, HALF)), [])
        self.assertEqual(how_many_angles(("lead", (999999, 1000), O), ("lead", (1, 999), O)), 999999 * 999 - 1000)


class Three(unittest.TestCase):
    def test_three(self):
        kinds = {}
        for one, other, third in combinations(LINES + [("flute", HALF), ("lead", TWO, O), ("lead", (-2, 1), HALF)], 3):
            some = [own for own in crossings_by_hand(one, other, Fraction(0), Fraction(200)) if lies_on(third, *own)]
            rings = "ring" in (one[0], other[0], third[0])
            wanted = None
            if some:
                wanted = (points(some)[0], None if rings else pair(some[1][0] - some[0][0]))
            for lines in permutations((one, other, third)):
                self.assertEqual(three_meet(*lines), wanted, lines)
            kinds[(wanted is None, rings)] = kinds.get((wanted is None, rings), 0) + 1
        self.assertTrue(min(kinds.values()) > 5 and len(kinds) == 4, kinds)

    def test_from_0_on(self):
        right, left, ring = ("lead", TWO, O), ("lead", (-2, 1), O), ("ring", (-1, 1))
        self.assertIsNone(three_meet(right, left, ring))
        self.assertEqual(three_meet(right, left, ("ring", O)), ((O, O), None))
        self.assertEqual(three_meet(right, left, ("flute", O)), ((O, O), TWO))
        self.assertEqual(three_meet(("lead", TWO, ONE), ("lead", (-2, 1), ONE), ("flute", O)), ((ONE, O), TWO))
        self.assertIsNone(three_meet(right, left, ("flute", (1, 4))))
        self.assertIsNone(three_meet(right, ("lead", TWO, ONE), left))
        self.assertIsNone(three_meet(("ring", O), ("ring", ONE), left))


FLUTE, LEFT, RIGHT, HOOP = ("flute", HALF), ("lead", (-2, 1), O), ("lead", TWO, O), ("ring", ONE)
CROSSED = (FOUR, ((FLUTE, O, FOUR, 1), (LEFT, O, FOUR, 2), (RIGHT, O, THREE, 3), (HOOP, ONE, ONE, 1)))
# GROOVES of one LINE that overlap, that touch; rings of one PLACE; ends in other GROOVES
DOUBLE = (FOUR, ((FLUTE, O, TWO, 1), (FLUTE, ONE, THREE, 2), (RIGHT, O, ONE, 1), (RIGHT, ONE, FOUR, 1), (HOOP, ONE, ONE, 1),
                 (HOOP, ONE, ONE, 2)))
DOUBLE = (FOUR, tuple(sorted(DOUBLE[1])))


def meets_by_hand(bar):
    """The pairs (point as Fractions, numbers), by place, then angle."""
    found = set()
    for one, other in combinations(bar[1], 2):
        low, high = max(told(one[1]), told(other[1])), min(told(one[2]), told(other[2]))
        if one[0] != other[0] and low <= high:
            found.update(crossings_by_hand(one[0], other[0], low, high))
    return [(own, numbers_by_hand(bar, *own)) for own in sorted(found)]


def numbers_by_hand(bar, place, angle):
    return tuple(number for number, (line, start, end, _) in enumerate(bar[1])
                 if told(start) <= place <= told(end) and lies_on(line, place, angle))


class Meetings(unittest.TestCase):
    bars = [CROSSED, DOUBLE, (FOUR, ())] + BARS

    def test_all_and_on_each(self):
        some = 0
        for bar in self.bars:
            rows = [(points([own])[0], numbers) for own, numbers in meets_by_hand(bar)]
            self.assertEqual(all_meetings(bar), rows)
            some += len(rows)
            for number in range(len(bar[1])):
                own = [row for row in rows if number in row[1]]
                self.assertEqual(meetings_on(bar, number), own)
                for place in (O, (-1, 1), ONE, (1, 3), (5, 2), FOUR, (6, 1), (7, 1)):
                    later = [row for row in own if told(row[0][0]) >= told(place)]
                    self.assertEqual(next_meeting(bar, number, place), later[0] if later else None)
        self.assertGreater(some, 100)

    def test_busiest_and_lonely(self):
        greatest = set()
        for bar in self.bars:
            rows = meets_by_hand(bar)
            many = max([0] + [len({bar[1][number][0] for number in numbers}) for _, numbers in rows])
            self.assertEqual(busiest(bar), many)
            met = {number for _, numbers in rows for number in numbers}
            self.assertEqual(lonely(bar), tuple(number for number in range(len(bar[1])) if number not in met))
            greatest.add(many)
        self.assertLessEqual({0, 2, 3, 4}, greatest)

    def test_at_place_and_grooves_at(self):
        for bar in self.bars:
            for place in (O, ONE, (1, 3), TWO, (5, 2), (6, 1), (7, 1), (-1, 1)):
                rows = {}
                for number, (line, start, end, _) in enumerate(bar[1]):
                    if line[0] != "ring" and told(start) <= told(place) <= told(end):
                        rows.setdefault(turn_at(line, told(place)) % 1, []).append(number)
                self.assertEqual(at_place(bar, place), [(pair(angle), tuple(rows[angle])) for angle in sorted(rows)])
                for angle in sorted(rows) + [Fraction(1, 7919)]:
                    self.assertEqual(grooves_at(bar, place, pair(angle)), numbers_by_hand(bar, told(place), angle))

    def test_a_meeting_at_the_ends_of_both(self):
        bar = (FOUR, tuple(sorted([(FLUTE, O, ONE, 1), (RIGHT, ONE, TWO, 1), (("ring", FOUR), FOUR, FOUR, 1)])))
        self.assertEqual(all_meetings(bar), [((ONE, HALF), (0, 1))])
        self.assertEqual((busiest(bar), lonely(bar)), (2, (2,)))

    def test_order_is_by_what_they_stand_for(self):
        flutes = tuple(sorted((("flute", pair(Fraction(own, 6))), O, FOUR, 1) for own in range(6)))
        rings = tuple((("ring", own), own, own, 1) for own in sorted([HALF, ONE, (1, 3)]))
        places = [own for own, _ in all_meetings((FOUR, flutes + rings))]
        self.assertEqual(places, sorted(places, key=lambda own: (told(own[0]), told(own[1]))))
        self.assertEqual(places[:3], [((1, 3), O), ((1, 3), (1, 6)), ((1, 3), (1, 3))])
        self.assertEqual(meetings_on((FOUR, flutes + rings), 6)[1][0], (rings[0][1], (1, 6)))

    def test_no_groove(self):
        over = ((401, 1), (((("flute", O)), O, (401, 1), 1), (("lead", ONE, O), O, (401, 1), 1)))
        for bar in (CROSSED, (FOUR, ()), over):
            for number in (-1, len(bar[1]), 10 ** 40):
                for call in [(meetings_on, bar, number), (next_meeting, bar, number, O)]:
                    with self.assertRaises(NoGroove) as caught:
                        call[0](*call[1:])
                    self.assertEqual(caught.exception.number, number)

    def test_too_many_meetings(self):
        for length, many in (((399, 1), 400), ((400, 1), None), ((10 ** 6, 1), None)):
            bar = (length, ((("flute", O), O, length, 1), (("lead", ONE, O), O, length, 1), (("ring", HALF), HALF, HALF, 1)))
            bar = (length, bar[1][:2])
            if many:
                self.assertEqual(len(all_meetings(bar)), many)
                self.assertEqual((len(meetings_on(bar, 0)), busiest(bar), lonely(bar)), (many, 2, ()))
                self.assertEqual(next_meeting(bar, 0, (1, 2)), ((ONE, O), (0, 1)))
            else:
                for call in [(all_meetings, bar), (meetings_on, bar, 0), (next_meeting, bar, 1, O), (busiest, bar)]:
                    self.assertRaises(TooMany, *call)
                self.assertEqual((lonely(bar), grooves_at(bar, ONE, O), at_place(bar, ONE)), ((), (0, 1), [(O, (0, 1))]))

    def test_too_many_of_several_grooves(self):
        # 201 each: 401 in all, as both begin alike
        lines = [("flute", O), ("lead", ONE, O), ("flute", HALF)]
        grooves = tuple(sorted((line, O, (200, 1), 1) for line in lines))
        self.assertRaises(TooMany, all_meetings, ((200, 1), grooves))
        shorter = tuple(sorted((line, O, (399, 2), 1) for line in lines))
        self.assertEqual(len(all_meetings(((399, 2), shorter))), 400)


if __name__ == "__main__":
    unittest.main()
