"""[17]: worn screws, led along stretch by stretch; what lathes do with them."""

import random
import unittest
from fractions import Fraction
from itertools import product

from screwshop.errors import NoClosing, NoPaper, TooMany, Unfit
from screwshop.lines import goes_through
from screwshop.passes import (bar_after, closes_at, cut_groove, dial_shows, next_closing, place_behind, run_out,
                              start_for, unmade)
from screwshop.dials import closings_apart, safe_marks
from screwshop.worn import (bends_of, closings, error_at, greatest_error, is_parting_turn, is_screw, longest_true,
                            mean_pitch, parting_turn, pitch_at, place_of, plain_screw, screw_through, screws_alike,
                            seen_from_turn, true_places, turns_at, worn_pieces)
from tests.support import STRANGE, spoiled
from tests.test_lines import pair, told

O, HALF, ONE, TWO, THREE = (0, 1), (1, 2), (1, 1), (2, 1), (3, 1)
WORN = ((TWO, THREE), ((4, 1), (5, 1)))
SCREWS = [THREE, HALF, (5, 7), WORN, ((ONE, THREE),), ((HALF, THREE), (ONE, THREE)), ((ONE, THREE), (HALF, HALF), ((7, 2), HALF)),
          ((HALF, TWO), (HALF, ONE), (HALF, TWO), ((9, 1), TWO)), ((HALF, TWO), (HALF, ONE), (HALF, TWO)),
          ((ONE, ONE), (ONE, TWO), (ONE, ONE), (ONE, TWO), (ONE, ONE), (ONE, TWO)), (((2, 3), (3, 2)), ((5, 7), (1, 3))),
          ((TWO, THREE), (ONE, (5, 1))), ((ONE, THREE), (ONE, THREE), (ONE, (5, 1)), (TWO, (5, 1)))]
TURNS = sorted({Fraction(own, 4) for own in range(-20, 60)} | {Fraction(own, 7) for own in range(-9, 40)} | {Fraction(-10 ** 6), Fraction(10 ** 6, 7)})
PLACES = sorted({Fraction(own, 3) for own in range(-20, 80)} | {Fraction(10 ** 6), Fraction(-10 ** 6, 9)})


def stretches(screw):
    """The triples (start, end, pitch) of turns, None without end."""
    if isinstance(screw[0], int):
        return [(None, None, told(screw))]
    found, turn = [], Fraction(0)
    for turns, pitch in screw:
        found.append([turn, turn + told(turns), told(pitch)])
        turn += told(turns)
    found[0][0] = found[-1][1] = None
    return [tuple(own) for own in found]


def place_by_hand(screw, turns):
    """What it leads to: each part of the way from turn 0 by its own pitch."""
    place = Fraction(0)
    for start, end, pitch in stretches(screw):
        low = min(turns, Fraction(0)) if start is None else start
        high = max(turns, Fraction(0)) if end is None else end
        gone = max(Fraction(0), min(high, max(turns, 0)) - max(low, 0)) - max(Fraction(0), min(high, 0) - max(low, turns))
        place += gone * pitch
    return place


def turns_by_hand(screw, place):
    ends = sorted({own for part in stretches(screw) for own in part[:2] if own is not None} | {Fraction(0)})
    ends = [min(ends) - 1] + ends + [max(ends) + 1]
    spans = [(low, high) for low, high in zip(ends, ends[1:])]
    for low, high in spans:
        near, far = place_by_hand(screw, low), place_by_hand(screw, high)
        if (near <= place or low == ends[0]) and (place <= far or high == ends[-1]):
            return low + (place - near) * (high - low) / (far - near)
    return None


def pitch_by_hand(screw, place):
    """How far it leads in a small part of a turn behind place."""
    part, turns = Fraction(1, 10 ** 9), turns_by_hand(screw, place)
    return (place_by_hand(screw, turns + part) - place) / part


def is_plain_by_hand(screw):
    if isinstance(screw[0], int):
        return True
    return len(screw) > 1 and screw[-1][0] == ONE and all(one[1] != other[1] for one, other in zip(screw, screw[1:]))


def same_by_hand(one, other):
    return all(place_by_hand(one, turns) == place_by_hand(other, turns) for turns in TURNS)


class Screws(unittest.TestCase):
    def test_what_a_screw_is(self):
        for screw in SCREWS + [(10 ** 40, 1), ((ONE, ONE),) * 40, (((1, 10 ** 40), (7, 2)),)]:
            self.assertIs(is_screw(screw), True, screw)

    def test_what_no_screw_is(self):
        for thing in STRANGE + [O, (-1, 1), (2, 4), (1, 0), (True, 1), (1, True), 3, [3, 1], (3, 1, 1), (), (ONE, ONE),
                                ((ONE, O),), ((O, ONE),), ((ONE, (-1, 1)),), (((-1, 1), ONE),), ((ONE, ONE, ONE),),
                                ((ONE,),), [(ONE, ONE)], ([ONE, ONE],), ((ONE, [1, 1]),), (ONE, (ONE, ONE)), ((ONE, (2, 2)),),
                                ((ONE, 1),), (None,), ((ONE, ONE), None)]:
            self.assertIs(is_screw(thing), False, thing)
        for screw in (THREE, WORN):
            for thing in spoiled(screw):
                self.assertIs(is_screw(thing), False, thing)

    def test_place_and_turns(self):
        for screw in SCREWS:
            for turns in TURNS:
                place = place_by_hand(screw, turns)
                self.assertEqual(place_of(screw, pair(turns)), pair(place))
                self.assertEqual(turns_at(screw, pair(place)), pair(turns))
            for place in PLACES:
                self.assertEqual(turns_at(screw, pair(place)), pair(turns_by_hand(screw, place)))
                self.assertEqual(pitch_at(screw, pair(place)), pair(pitch_by_hand(screw, place)))

    def test_pitch_at_bends_is_the_one_behind(self):
        screw = ((ONE, THREE), (HALF, HALF), (TWO, (7, 1)))
        places = [(-5, 1), O, (299, 100), THREE, (324, 100), (13, 4), (100, 1)]
        self.assertEqual([pitch_at(screw, own) for own in places], [THREE, THREE, THREE, HALF, HALF, (7, 1), (7, 1)])

    def test_plain(self):
        for screw in SCREWS:
            plain = plain_screw(screw)
            self.assertTrue(is_screw(plain) and is_plain_by_hand(plain))
            self.assertTrue(same_by_hand(screw, plain))
            self.assertEqual(plain_screw(plain), plain)
            self.assertIs(plain == screw, is_plain_by_hand(screw))

    def test_alike_and_parting(self):
        alike = 0
        for one, other in product(SCREWS, SCREWS):
            same = same_by_hand(one, other)
            alike += same
            self.assertIs(screws_alike(one, other), same)
            if same:
                self.assertRaises(NoPaper, parting_turn, one, other)
            else:
                turns = parting_turn(one, other)
                self.assertNotEqual(place_by_hand(one, told(turns)), place_by_hand(other, told(turns)))
                self.assertIs(is_parting_turn(one, other, turns), True)
            for turns in TURNS[::9]:
                self.assertIs(is_parting_turn(one, other, pair(turns)), place_by_hand(one, turns) != place_by_hand(other, turns))
        self.assertGreater(alike, len(SCREWS))

    def test_parting_in_one_part_alone(self):
        for one, other in [(((ONE, ONE), (ONE, TWO), (ONE, THREE)), ((ONE, ONE), (ONE, TWO), (ONE, ONE))),
                           (((ONE, TWO), (ONE, ONE)), ((ONE, THREE), (ONE, ONE))),
                           (((HALF, ONE), (HALF, TWO), (ONE, ONE)), ((HALF, TWO), (HALF, ONE), (ONE, ONE))),
                           (((ONE, ONE), (HALF, ONE), (HALF, THREE), (ONE, ONE)), ((ONE, ONE), (HALF, THREE), (HALF, ONE), (ONE, ONE)))]:
            turns = parting_turn(one, other)
            self.assertNotEqual(place_by_hand(one, told(turns)), place_by_hand(other, told(turns)))
            self.assertIs(screws_alike(one, other), False)

    def test_things_that_are_no_parting_turns(self):
        self.assertIs(is_parting_turn(THREE, TWO, ONE), True)
        for thing in STRANGE + spoiled((-3, 2)) + [O, (2, 2), [1, 1], (True, 1), (1, True), 1, "1", (ONE,)]:
            self.assertIs(is_parting_turn(THREE, TWO, thing), False, thing)

    def test_bends(self):
        for screw in SCREWS:
            bends = bends_of(screw)
            ends = {end for _, end, _ in stretches(screw) if end is not None}
            found = sorted(place_by_hand(screw, end) for end in ends)
            found = [own for own in found if pitch_by_hand(screw, own) != pitch_by_hand(screw, own - Fraction(1, 10 ** 6))]
            self.assertEqual(bends, tuple(map(pair, found)))
        self.assertEqual(bends_of(((ONE, ONE), (ONE, TWO), (ONE, ONE))), (ONE, THREE))

    def test_seen_from(self):
        for screw in SCREWS:
            for turns in TURNS[::5]:
                seen = seen_from_turn(screw, pair(turns))
                self.assertTrue(is_screw(seen) and is_plain_by_hand(seen))
                for more in [own for own in TURNS if own >= 0][::4]:
                    self.assertEqual(place_by_hand(seen, more), place_by_hand(screw, turns + more) - place_by_hand(screw, turns))

    def test_seen_from_bends_and_ahead_of_0(self):
        screw = ((ONE, THREE), (HALF, HALF), (TWO, (7, 1)))
        self.assertEqual(seen_from_turn(screw, ONE), ((HALF, HALF), (ONE, (7, 1))))
        self.assertEqual(seen_from_turn(screw, (3, 2)), (7, 1))
        self.assertEqual(seen_from_turn(screw, (99, 1)), (7, 1))
        self.assertEqual(seen_from_turn(screw, (-2, 1)), ((THREE, THREE), (HALF, HALF), (ONE, (7, 1))))
        self.assertEqual(seen_from_turn(HALF, (-2, 1)), HALF)

    def test_through(self):
        self.assertEqual(screw_through(((TWO, (6, 1)), (THREE, (11, 1)))), ((TWO, THREE), (ONE, (5, 1))))
        self.assertEqual(screw_through(((TWO, (6, 1)), (THREE, (9, 1)))), THREE)
        self.assertEqual(screw_through(((HALF, (7, 3)),)), (14, 3))
        chance = random.Random(3)
        for _ in range(60):
            turns = sorted(chance.sample(range(1, 30), chance.randrange(1, 7)))
            places = sorted(chance.sample(range(1, 30), len(turns)))
            points = tuple((pair(Fraction(turn, 4)), pair(Fraction(place, 3))) for turn, place in zip(turns, places))
            screw = screw_through(points)
            self.assertTrue(is_screw(screw) and is_plain_by_hand(screw))
            for (turn, place), (near, far) in zip(points, ((O, O),) + points):
                middle = (told(turn) + told(near)) / 2, (told(place) + told(far)) / 2
                self.assertEqual(place_by_hand(screw, told(turn)), told(place))
                self.assertEqual(place_by_hand(screw, middle[0]), middle[1])

    def test_through_what_does_not_rise(self):
        for points in [((O, O),), ((O, ONE),), ((ONE, O),), ((ONE, (-1, 1)),), (((-1, 1), (-1, 1)),), ((ONE, ONE), (ONE, TWO)),
                       ((ONE, ONE), (TWO, ONE)), ((ONE, TWO), (TWO, ONE)), ((TWO, ONE), (ONE, TWO)), ((HALF, ONE), ((1, 3), TWO))]:
            self.assertRaises(Unfit, screw_through, points)


LATHES = [(screw, train, (4, 2)) for screw in SCREWS[:11]
          for train in [(((20, 40),), False), (((3, 2),), True), ((), False)]]


def ratio(lathe):
    top = Fraction(1)
    for driver, driven in lathe[1][0]:
        top *= Fraction(driver, driven)
    return -top if lathe[1][1] else top


def carriage(lathe, turned, place, turns):
    """Where it is: [3], the table."""
    count = ratio(lathe) * turned - turns_by_hand(lathe[0], place)
    return place_by_hand(lathe[0], ratio(lathe) * turns - count)


class Lathes(unittest.TestCase):
    def test_closings(self):
        for lathe in LATHES:
            for turned in (Fraction(0), Fraction(1, 3), Fraction(-7, 2)):
                for low, high in [(Fraction(0), Fraction(9)), (Fraction(-11, 2), Fraction(7, 3)), (Fraction(3), Fraction(3))]:
                    found = []
                    for count in range(-60, 60):
                        place = place_by_hand(lathe[0], ratio(lathe) * turned - count)
                        if low <= place <= high:
                            found.append(place)
                    self.assertEqual(closings(lathe, pair(turned), pair(low), pair(high)), tuple(map(pair, sorted(found))))

    def test_the_nut_closes_there(self):
        for lathe in LATHES[::2]:
            for place in closings(lathe, (1, 3), (-5, 1), (9, 1)):
                count = closes_at(lathe, (1, 3), place)
                self.assertEqual(count, ratio(lathe) / 3 - turns_by_hand(lathe[0], told(place)))
                self.assertRaises(NoClosing, closes_at, lathe, (1, 3), pair(told(place) + Fraction(1, 9999)))
                self.assertEqual(dial_shows(lathe, (1, 3), place)[0], pair(Fraction(count % 4, 4)))

    def test_too_many_closings(self):
        screw = ((ONE, ONE), (ONE, HALF))
        for length, many in [((399, 1), 400), ((400, 1), None), ((10 ** 6, 1), None)]:
            lathe = (ONE, ((), False), (1, 1))
            if many:
                self.assertEqual(len(closings(lathe, O, O, length)), many)
            else:
                self.assertRaises(TooMany, closings, lathe, O, O, length)
        lathe = (screw, ((), False), (1, 1))
        self.assertEqual(len(closings(lathe, O, O, (200, 1))), 400)
        self.assertRaises(TooMany, closings, lathe, O, O, (401, 2))

    def test_pieces(self):
        some = {}
        for lathe in LATHES:
            bends = list(map(told, bends_of(lathe[0])))
            for turned in (Fraction(0), Fraction(2, 3)):
                for place in map(told, closings(lathe, pair(turned), (-4, 1), (9, 1))[::5]):
                    for end in (place + 5, place - Fraction(9, 2), place + Fraction(1, 5), Fraction(6)):
                        if place != end:
                            pieces = worn_pieces(lathe, pair(turned), pair(place), pair(end))
                            low, high = min(place, end), max(place, end)
                            cuts = [low] + [own for own in bends if low < own < high] + [high]
                            self.assertEqual([own[1:] for own in pieces], [(pair(one), pair(two)) for one, two in zip(cuts, cuts[1:])])
                            self.check_points(lathe, turned, place, pieces)
                            some[len(pieces)] = some.get(len(pieces), 0) + 1
        self.assertTrue(len(some) > 3, some)

    def check_points(self, lathe, turned, place, pieces):
        for line, start, end in pieces:
            self.assertEqual(line[:2], ("lead", pair(pitch_by_hand(lathe[0], told(start)) * ratio(lathe))))
            for part in range(4):
                at = told(start) + (told(end) - told(start)) * Fraction(part, 3)
                turns = turned + (turns_by_hand(lathe[0], at) - turns_by_hand(lathe[0], place)) / ratio(lathe)
                self.assertEqual(carriage(lathe, turned, place, turns), at)
                self.assertTrue(goes_through(line, (pair(at), pair(turns % 1))))

    def test_passes_of_worn_lathes(self):
        for lathe in LATHES[::2]:
            for turned in (Fraction(0), Fraction(3, 4)):
                for place in map(told, closings(lathe, pair(turned), (-3, 1), (8, 1))[::2]):
                    for turns in (Fraction(-3), Fraction(1, 2), Fraction(17, 3)):
                        there = carriage(lathe, turned, place, turns)
                        self.assertEqual(place_behind(lathe, pair(turned), pair(place), pair(turns)), pair(there))
                        self.assertEqual(run_out(lathe, pair(turned), pair(place), pair(there)), pair(turns))
                    later = next_closing(lathe, pair(turned + Fraction(1, 9)), pair(place))
                    self.assertEqual(told(later), turned + 1 / abs(ratio(lathe)) * -(-Fraction(1, 9) * abs(ratio(lathe)) // 1))

    def test_what_asks_for_a_screw_that_is_not_worn(self):
        lathe = (WORN, ((), False), (4, 2))
        bar = ((9, 1), ())
        for call in [(cut_groove, lathe, (HALF, O, ONE, 1)), (bar_after, lathe, bar, ()), (unmade, lathe, bar),
                     (start_for, lathe, ("flute", O), O), (closings_apart, lathe), (safe_marks, lathe)]:
            self.assertRaises(Unfit, *call)

    def test_no_closing(self):
        for lathe in LATHES:
            place = place_by_hand(lathe[0], Fraction(1, 3))
            self.assertRaises(NoClosing, worn_pieces, lathe, O, pair(place), pair(place + 1))


class Errors(unittest.TestCase):
    def test_true_places(self):
        for screw in SCREWS:
            for bed in (HALF, THREE, (6, 1), (20, 1), (13, 4)):
                runs = self.runs_by_hand(screw, told(bed))
                for pitch in {own[2] for own in stretches(screw)} | {Fraction(99)}:
                    wanted = tuple((pair(low), pair(high)) for low, high, own in runs if own == pitch)
                    self.assertEqual(true_places(screw, pair(pitch), bed), wanted)
                longest = max(high - low for low, high, _ in runs)
                first = [(pair(low), pair(high)) for low, high, _ in runs if high - low == longest][0]
                self.assertEqual(longest_true(screw, bed), first)

    def runs_by_hand(self, screw, bed):
        """The triples (start, end, pitch) of the bed, as long as can be."""
        runs = []
        for start, end, pitch in stretches(screw):
            low = Fraction(0) if start is None else place_by_hand(screw, start)
            high = bed if end is None else min(bed, place_by_hand(screw, end))
            if low < high:
                if runs and runs[-1][2] == pitch:
                    low = runs.pop()[0]
                runs.append((low, high, pitch))
        return runs

    def test_of_several_the_first(self):
        screw = ((ONE, ONE), (HALF, TWO), (ONE, ONE), (ONE, HALF))
        self.assertEqual(longest_true(screw, THREE), (O, ONE))
        self.assertEqual(longest_true(screw, (7, 1)), (THREE, (7, 1)))
        self.assertEqual(true_places(screw, ONE, (5, 2)), ((O, ONE), (TWO, (5, 2))))
        self.assertEqual(true_places(screw, TWO, ONE), ())

    def test_errors(self):
        for screw in SCREWS:
            for pitch in (ONE, THREE, (7, 5)):
                for place in PLACES[::3]:
                    error = place - told(pitch) * turns_by_hand(screw, place)
                    self.assertEqual(error_at(screw, pitch, pair(place)), pair(error))
                for bed in (HALF, THREE, (20, 1), (13, 4)):
                    ends = [Fraction(0), told(bed)] + [own for own in map(told, bends_of(screw)) if own < told(bed)]
                    greatest = max(abs(own - told(pitch) * turns_by_hand(screw, own)) for own in ends)
                    self.assertEqual(greatest_error(screw, pitch, bed), pair(greatest))
                    for part in range(30):
                        place = told(bed) * Fraction(part, 29)
                        self.assertLessEqual(abs(place - told(pitch) * turns_by_hand(screw, place)), greatest)

    def test_greatest_at_several_places(self):
        screw = ((ONE, THREE), (TWO, ONE), (ONE, THREE))
        self.assertEqual([error_at(screw, TWO, own) for own in (THREE, (5, 1), (8, 1))], [ONE, (-1, 1), O])
        self.assertEqual(greatest_error(screw, TWO, (6, 1)), ONE)
        self.assertEqual(greatest_error(screw, THREE, TWO), O)
        self.assertEqual(greatest_error(screw, TWO, (20, 1)), (4, 1))

    def test_mean_pitch(self):
        for screw in SCREWS:
            for start, end in [(O, ONE), (ONE, O), ((-7, 2), (13, 3)), ((9, 1), (8, 1)), ((-1, 1), (-5, 1))]:
                mean = (told(end) - told(start)) / (turns_by_hand(screw, told(end)) - turns_by_hand(screw, told(start)))
                self.assertEqual(mean_pitch(screw, start, end), pair(mean))


if __name__ == "__main__":
    unittest.main()
