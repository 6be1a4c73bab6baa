"""[11]: nuts, tooth by tooth and PLACE by PLACE."""

import random
import unittest
from fractions import Fraction
from itertools import combinations

from screwshop.errors import NoPaper, NoTooth, Unfit
from screwshop.nuts import (how_far, is_nut, is_on, nut_at, nut_moved, nut_step, nut_through, stays_of, stops_at,
                            tooth_stretch, way_between, ways_on, why_off)
from tests.support import STRANGE, spoiled
from tests.test_lines import lies_on, pair, told

O, HALF, ONE, TWO, THREE, FOUR = (0, 1), (1, 2), (1, 1), (2, 1), (3, 1), (4, 1)
LEADS = [ONE, (-1, 1), TWO, (-3, 2)]
PLACES = [Fraction(number, 4) for number in range(17)]


def lead_line(lead, sixth):
    return ("lead", lead, pair(Fraction(sixth, 6) * abs(told(lead))))


def some_bars(many, seed=3):
    """BARS of length 4, GROOVES of two leads with ends at halves, some beside a ring and a flute."""
    chance = random.Random(seed)
    found = []
    for _ in range(many):
        leads = chance.sample(LEADS, 2)
        grooves = {(lead_line(leads[chance.randrange(4) // 3], chance.randrange(3) * 2),) + some_stretch(chance)
                   for _ in range(chance.randrange(1, 10))}
        grooves |= {(("ring", ONE), ONE, ONE, 5), (("flute", O), O, FOUR, 7)}
        found.append((FOUR, tuple(sorted(grooves))))
    return found


def some_stretch(chance):
    start, end = sorted(chance.sample(range(9), 2))
    return (pair(Fraction(start, 2)), pair(Fraction(end, 2)), chance.randrange(1, 4))


def some_nuts(bar):
    """NUTS of one to three teeth for the leads of bar."""
    leads = sorted({groove[0][1] for groove in bar[1] if groove[0][0] == "lead"})
    for lead in leads:
        phases = [lead_line(lead, sixth)[2] for sixth in (0, 1, 2, 4)]
        for many in (1, 2, 3):
            for some in combinations(phases, many):
                yield (lead, tuple(sorted(some)), len(some) % 2 + 1)


def tooth_on(bar, nut, number, shift, turn):
    """[11] word by word, of a tooth."""
    lead, phases, height = nut
    angle = (turn - told(phases[number]) / told(lead)) % 1
    return any(line[0] == "lead" and line[1] == lead and depth >= height and told(start) <= shift <= told(end)
               and lies_on(line, shift, angle) for line, start, end, depth in bar[1])


def all_on(bar, nut, shift, turn):
    return all(tooth_on(bar, nut, number, shift, turn) for number in range(len(nut[1])))


def screwed_while(on, shift, turn, lead):
    """The least and the greatest place to which it is on all the way, looked at between halves."""
    ends = []
    for step in (Fraction(-1, 4), Fraction(1, 4)):
        gone = Fraction(0)
        while on(shift + gone + step, turn + (gone + step) / lead):
            gone += step
        ends.append(shift + gone)
    return tuple(ends)


BARS = some_bars(16)
MOTIONS = [(place, Fraction(turn, 12)) for place in PLACES[::2] for turn in range(12)]
MOTIONS += [(Fraction(-1, 2), Fraction(0)), (Fraction(9, 2), Fraction(1, 2))]


def motion(shift, turn):
    return (pair(shift), pair(turn % 1))


def cases():
    """BARS with a NUT and a place at which it is on, as a pair of Fractions."""
    for bar in BARS:
        for nut in some_nuts(bar):
            yield from [(bar, nut, own) for own in MOTIONS if all_on(bar, nut, *own)][::3]


class Shapes(unittest.TestCase):
    def test_what_a_nut_is(self):
        for nut in [(ONE, (O,), 1), ((-1, 1), (O, HALF), 20), ((-5, 2), (O, ONE, TWO, (9, 4)), 1), ((1, 10 ** 9), (O,), 1),
                    (ONE, tuple(sorted((own, 97) for own in range(1, 97))), 10 ** 40), (ONE, ((999, 1000),), 3)]:
            self.assertIs(is_nut(nut), True, nut)

    def test_what_no_nut_is(self):
        for thing in STRANGE + [
                (O, (O,), 1), (ONE, (), 1), (ONE, (ONE,), 1), (ONE, ((-1, 2),), 1), ((-1, 1), ((-1, 2),), 1),
                ((-1, 1), (ONE,), 1), (ONE, (HALF, O), 1), (ONE, (O, O), 1), (ONE, ((2, 4),), 1), (ONE, ((1, 3), HALF), 1),
                ((2, 2), (O,), 1), (ONE, (O,), 0), (ONE, (O,), -1), (ONE, (O,), True), (ONE, (O,)), (ONE, (O,), 1, 1),
                (ONE, [O], 1), [ONE, (O,), 1], ([1, 1], (O,), 1), (ONE, ([0, 1],), 1), (ONE, O, 1), (1, (O,), 1),
                (ONE, ((0, True),), 1), ((True, 1), (O,), 1), (ONE, ((False, 1),), 1), (ONE, (0,), 1), (ONE, None, 1),
                (ONE, (O,), HALF), ("lead", ONE, O), (TWO, (O, ONE, (3, 2), TWO), 1)]:
            self.assertIs(is_nut(thing), False, thing)
        for nut in [(TWO, (O, ONE, (3, 2)), 2), ((-1, 2), ((1, 4),), 1)]:
            for thing in spoiled(nut):
                self.assertIs(is_nut(thing), False, thing)


class On(unittest.TestCase):
    def test_is_on_and_why_off(self):
        counts = {}
        for bar in BARS[:12]:
            for nut in some_nuts(bar):
                for shift, turn in MOTIONS[::2]:
                    off = tuple(own for own in range(len(nut[1])) if not tooth_on(bar, nut, own, shift, turn))
                    self.assertEqual(why_off(bar, nut, motion(shift, turn)), off)
                    self.assertIs(is_on(bar, nut, motion(shift, turn)), off == ())
                    counts[off] = counts.get(off, 0) + 1
        self.assertTrue(all(counts[off] > 10 for off in [(), (0,), (1,), (2,), (0, 1), (0, 1, 2)]))

    def test_height(self):
        bar = (FOUR, ((("lead", ONE, O), O, TWO, 2), (("lead", ONE, O), TWO, FOUR, 3)))
        self.assertEqual([is_on(bar, (ONE, (O,), own), (ONE, O)) for own in (1, 2, 3)], [True, True, False])
        self.assertEqual([is_on(bar, (ONE, (O,), own), (TWO, O)) for own in (2, 3, 4)], [True, True, False])

    def test_another_lead_is_no_groove_of_it(self):
        bar = (FOUR, ((("flute", O), O, FOUR, 9), (("lead", (-1, 1), O), O, FOUR, 9), (("ring", ONE), ONE, ONE, 9)))
        self.assertEqual(why_off(bar, (ONE, (O,), 1), (ONE, O)), (0,))
        self.assertEqual(stays_of(bar, (ONE, (O,), 1)), [])

    def test_off_the_bar(self):
        bar = (FOUR, ((("lead", ONE, O), O, FOUR, 1),))
        self.assertEqual([why_off(bar, (ONE, (O,), 1), own) for own in (((-1, 1), O), (O, O), (FOUR, O), ((5, 1), O))],
                         [(0,), (), (), (0,)])

    def test_ways_on(self):
        some = 0
        for bar in BARS:
            for nut in some_nuts(bar):
                for far in (False, True):
                    place = Fraction(4 if far else 0)
                    turns = [Fraction(own, 72) for own in range(72)]
                    ways = tuple(sorted(pair(own) for own in turns if all_on(bar, nut, place, own)))
                    self.assertEqual(ways_on(bar, nut, far), ways)
                    some += len(ways)
        self.assertGreater(some, 50)


class Stretches(unittest.TestCase):
    def test_tooth_stretch(self):
        for bar in BARS[:12]:
            for nut in some_nuts(bar):
                for shift, turn in MOTIONS[::5]:
                    for number in range(len(nut[1])):
                        self.check_tooth(bar, nut, number, shift, turn)

    def check_tooth(self, bar, nut, number, shift, turn):
        def on(place, angle):
            return tooth_on(bar, nut, number, place, angle)
        if on(shift, turn):
            low, high = screwed_while(on, shift, turn, told(nut[0]))
            self.assertEqual(tooth_stretch(bar, nut, motion(shift, turn), number), (pair(low), pair(high)))
        else:
            self.assertRaises(Unfit, tooth_stretch, bar, nut, motion(shift, turn), number)

    def test_no_tooth(self):
        nut = (ONE, (O, HALF), 1)
        for number in (-1, 2, 10 ** 40, -2):
            for at in ((O, O), (ONE, (1, 3)), ((9, 1), O)):
                with self.assertRaises(NoTooth) as caught:
                    tooth_stretch((FOUR, ((("lead", ONE, O), O, FOUR, 1),)), nut, at, number)
                self.assertEqual(caught.exception.number, number)

    def test_how_far_and_what_stops(self):
        stopped = {}
        for bar, nut, (shift, turn) in cases():
            def on(place, angle):
                return all_on(bar, nut, place, angle)
            ends = screwed_while(on, shift, turn, told(nut[0]))
            self.assertEqual(how_far(bar, nut, motion(shift, turn)), tuple(map(pair, ends)))
            for far in (False, True):
                place, teeth = ends[far], []
                for number in range(len(nut[1])):
                    beyond = place + (Fraction(1, 9) if far else Fraction(-1, 9))
                    if not tooth_on(bar, nut, number, beyond, turn + (beyond - shift) / told(nut[0])):
                        teeth.append(number)
                self.assertEqual(stops_at(bar, nut, motion(shift, turn), far), (pair(place), tuple(teeth)))
                stopped[tuple(teeth)] = True
        self.assertLessEqual({(0,), (1,), (0, 1), (2,)}, set(stopped))

    def test_not_on(self):
        bar, nut = (FOUR, ((("lead", ONE, O), O, FOUR, 1),)), (ONE, (O, HALF), 1)
        for call in [(how_far, bar, nut, (O, O)), (stops_at, bar, nut, (O, O), True), (tooth_stretch, bar, nut, (O, O), 1),
                     (way_between, bar, nut, (O, O), (O, O))]:
            self.assertRaises(Unfit, *call)

    def test_grooves_that_touch_are_one_way(self):
        line, nut = ("lead", ONE, O), (ONE, (O,), 2)

        def far(*stretches):
            grooves = tuple(sorted((line, (low, 1), (high, 1), depth) for low, high, depth in stretches))
            return how_far((FOUR, grooves), nut, (O, O))[1]
        self.assertEqual(far((0, 2, 2), (2, 4, 3)), FOUR)
        self.assertEqual(far((0, 2, 2), (2, 4, 1)), TWO)
        self.assertEqual(far((0, 2, 2), (1, 4, 2)), FOUR)
        self.assertEqual(far((0, 2, 2), (3, 4, 2)), TWO)
        self.assertEqual(far((0, 2, 2), (0, 1, 5), (1, 3, 1), (2, 3, 2)), THREE)
        self.assertEqual(far((0, 4, 1), (0, 1, 2)), ONE)


class Ways(unittest.TestCase):
    def test_way_between(self):
        found = 0
        for bar, nut, one in list(cases())[::4]:
            lead = told(nut[0])
            low, high = screwed_while(lambda place, angle: all_on(bar, nut, place, angle), *one, lead)
            for two in MOTIONS[::5] + [(one[0] + gone, (one[1] + gone / lead) % 1) for gone in PLACES[1:8]]:
                if not all_on(bar, nut, *two):
                    self.assertRaises(Unfit, way_between, bar, nut, motion(*one), motion(*two))
                    self.assertRaises(Unfit, way_between, bar, nut, motion(*two), motion(*one))
                elif low <= two[0] <= high and (one[1] + (two[0] - one[0]) / lead - two[1]).denominator == 1:
                    self.assertEqual(way_between(bar, nut, motion(*one), motion(*two)), pair((two[0] - one[0]) / lead))
                    found += 1
                else:
                    self.assertRaises(NoPaper, way_between, bar, nut, motion(*one), motion(*two))
        self.assertGreater(found, 100)

    def test_apart_on_one_line(self):
        line, nut = ("lead", (-2, 1), O), ((-2, 1), (O,), 1)
        bar = (FOUR, ((line, O, ONE, 1), (line, TWO, FOUR, 1)))
        self.assertRaises(NoPaper, way_between, bar, nut, (O, O), (FOUR, O))
        self.assertEqual(way_between(bar, nut, (TWO, O), (FOUR, O)), (-1, 1))
        self.assertEqual(way_between(bar, nut, (FOUR, O), (TWO, O)), ONE)
        self.assertEqual(way_between(bar, nut, (FOUR, O), (FOUR, O)), O)

    def test_stays(self):
        kinds = {"one place": 0, "some": 0, "none": 0}
        for bar in BARS:
            for nut in some_nuts(bar):
                stays = stays_of(bar, nut)
                self.assertEqual(stays, self.stays_by_hand(bar, nut))
                kinds["one place"] += any(start == end for _, start, end in stays)
                kinds["some" if len(stays) > 1 else "none"] += len(stays) != 1
        self.assertTrue(all(many > 5 for many in kinds.values()), kinds)

    def stays_by_hand(self, bar, nut):
        found, lead = [], told(nut[0])
        for number in range(6):
            turn, start = Fraction(number, 6), None
            for place in PLACES + [Fraction(17, 4)]:
                if all_on(bar, nut, place, turn + place / lead):
                    start = place if start is None else start
                elif start is not None:
                    found.append((pair(turn), pair(start), pair(place - Fraction(1, 4))))
                    start = None
        return sorted(found)

    def test_stays_are_ordered_by_the_pairs(self):
        line = ("lead", ONE, O)
        bar = (FOUR, ((line, ONE, (3, 2), 1), (line, TWO, FOUR, 1), (line, HALF, (3, 4), 1)))
        self.assertEqual(stays_of((FOUR, tuple(sorted(bar[1]))), (ONE, (O,), 1)),
                         [(O, ONE, (3, 2)), (O, HALF, (3, 4)), (O, TWO, FOUR)])
        lines = [("lead", ONE, own) for own in (O, (2, 3), HALF)]
        self.assertEqual([own[0] for own in stays_of((FOUR, tuple(sorted((own, O, FOUR, 1) for own in lines))),
                                                     (ONE, (O,), 1))], [O, HALF, (1, 3)])


class Made(unittest.TestCase):
    def phases_on(self, bar, lead, height, places):
        """The phases, to twelfths of the lead, of teeth that are on all the way through these places from turn 0 on."""
        phases = [abs(told(lead)) * Fraction(own, 24) for own in range(24)]
        first = places[0]
        return tuple(sorted(pair(phase) for phase in phases
                            if all(tooth_on(bar, (lead, (pair(phase),), height), 0, own, (own - first) / told(lead))
                                   for own in places)))

    def test_nut_at(self):
        for bar in BARS:
            for lead in LEADS:
                for height in (1, 2, 3):
                    for place in (Fraction(0), Fraction(1), Fraction(5, 2), Fraction(4), Fraction(9, 2)):
                        phases = self.phases_on(bar, lead, height, [place])
                        if phases:
                            self.assertEqual(nut_at(bar, lead, height, pair(place)), (lead, phases, height))
                        else:
                            self.assertRaises(NoPaper, nut_at, bar, lead, height, pair(place))

    def test_nut_through(self):
        through = 0
        threads = ((("lead", ONE, O), O, FOUR, 1), (("lead", ONE, HALF), O, FOUR, 2), (("lead", TWO, ONE), O, FOUR, 2))
        for bar in BARS + [(FOUR, threads)]:
            for lead in LEADS:
                for height in (1, 2):
                    phases = self.phases_on(bar, lead, height, PLACES)
                    through += len(phases)
                    if phases:
                        self.assertEqual(nut_through(bar, lead, height), (lead, phases, height))
                    else:
                        self.assertRaises(NoPaper, nut_through, bar, lead, height)
        self.assertGreater(through, 5)

    def test_nut_moved(self):
        for nut in [(ONE, (O, HALF), 1), ((-3, 2), (O, (1, 2), (1, 4)), 2), (TWO, (ONE, (1, 3)), 3)]:
            nut = (nut[0], tuple(sorted(nut[1])), nut[2])
            for shift, turn in MOTIONS[::7]:
                moved = nut_moved(nut, motion(shift, turn))
                lead, size = told(nut[0]), abs(told(nut[0]))
                phases = sorted(pair((told(phase) + shift - lead * turn) % size) for phase in nut[1])
                self.assertEqual(moved, (nut[0], tuple(phases), nut[2]))
                self.assertTrue(is_nut(moved))

    def test_nut_moved_is_on_where_it_was(self):
        for bar, nut, (shift, turn) in list(cases())[::5]:
            moved = nut_moved(nut, motion(shift, turn))
            self.assertTrue(is_on(bar, moved, motion(shift, shift / told(nut[0]))))

    def test_nut_step(self):
        for lead in ((6, 1), (-6, 1)):
            for many in (1, 2, 3, 4):
                for some in combinations(range(12), many):
                    phases = [Fraction(own, 2) for own in some]
                    steps = [number for number in range(1, 13)
                             if {(own + Fraction(number, 2)) % 6 for own in phases} == set(phases)]
                    nut = (lead, tuple(sorted(map(pair, phases))), 1)
                    self.assertEqual(nut_step(nut), pair(Fraction(steps[0], 12)))


if __name__ == "__main__":
    unittest.main()
