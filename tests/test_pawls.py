"""[16]: pawls, led along groove by groove."""

import random
import unittest
from fractions import Fraction
from itertools import product
from math import gcd

from screwshop.bars import is_bar, is_plain, plain_bar
from screwshop.errors import NoPaper, NoStart, Unfit
from screwshop.lines import goes_through
from screwshop.pawls import (bar_of_track, beat_of, comes_through, crossing_places, divisor_paper, groove_at,
                             is_divisor_paper, is_track, least_length, pawl_at, pawls_meet, round_of, start_after,
                             starts_met, starts_through, track_of, turns_of, turns_to)
from tests.support import STRANGE, spoiled
from tests.test_alikebars import turned_by_hand
from tests.test_lines import pair, told

O, HALF, ONE, TWO, THREE = (0, 1), (1, 2), (1, 1), (2, 1), (3, 1)
FAR = 10 ** 30
REEL, LAME = (THREE, THREE, (6, 1), 2), ((4, 1), THREE, (6, 1), 2)


def some_tracks():
    """TRACKS of several beats and starts, leads alike and not."""
    found = [REEL, LAME, (ONE, ONE, ONE, 1), (HALF, ONE, ONE, 1), (ONE, ONE, ONE, 40)]
    for right, left, starts, beat in product([ONE, (3, 2)], [ONE, (2, 3), (5, 1)], [1, 2, 3, 4, 6], [1, 2, 3, 4, 6, 9]):
        length = Fraction(beat, starts) / (1 / told(right) + 1 / told(left))
        found.append((pair(length), right, left, starts))
    return found


TRACKS = some_tracks()


def grooves_by_hand(track, start, many):
    """The grooves that it goes along, (word, number, from which turns to which), for many goings and comings."""
    length, right, left = map(told, track[:3])
    starts, turns, own, found = track[3], Fraction(0), start, []
    for _ in range(many):
        found.append(("right", own, turns, turns + length / right))
        turns += length / right
        # both grooves are at one ANGLE at the far end: at PLACE 0 the left one is length / left of a turn ahead
        angle = Fraction(own, starts) + length / right
        own = [number for number in range(starts) if (Fraction(number, starts) - length / left - angle).denominator == 1][0]
        found.append(("left", own, turns, turns + length / left))
        turns += length / left
    return found


def point_by_hand(track, groove, turns):
    """Where it is in a groove, by the groove's own LINE."""
    length, right, left = map(told, track[:3])
    word, number, start, end = groove
    if word == "right":
        place = (turns - start) * right
        return place, (Fraction(number, track[3]) + place / right) % 1
    place = length - (turns - start) * left
    return place, (Fraction(number, track[3]) - place / left) % 1


def groove_there(grooves, turns):
    return [own for own in grooves if own[2] <= turns < own[3]][0]


class Shapes(unittest.TestCase):
    def test_what_a_track_is(self):
        for track in TRACKS + [((1, 10 ** 30), ONE, ONE, 10 ** 30), ((10 ** 40, 1), HALF, HALF, 1), (ONE, ONE, (2, 3), 2)]:
            self.assertIs(is_track(track), True, track)
            self.assertEqual(beat_of(track), track[3] * (told(track[0]) / told(track[1]) + told(track[0]) / told(track[2])))
            self.assertIs(type(beat_of(track)), int)
            self.assertEqual(turns_of(track), (pair(told(track[0]) / told(track[1])), pair(told(track[0]) / told(track[2]))))

    def test_what_no_track_is(self):
        for thing in STRANGE + [
                (ONE, THREE, THREE, 2), (ONE, THREE, THREE, 1), (THREE, THREE, (6, 1), 1), (THREE, THREE, (6, 1), 3),
                (THREE, THREE, (6, 1), 0), (THREE, THREE, (6, 1), -2), (THREE, THREE, (6, 1), True), (O, ONE, ONE, 1),
                ((-1, 1), ONE, ONE, 1), (ONE, (-1, 1), ONE, 1), (ONE, ONE, (-1, 1), 1), (ONE, (-1, 1), (-1, 1), 1),
                (ONE, O, ONE, 1), ((2, 2), ONE, ONE, 1), [ONE, ONE, ONE, 1], (ONE, ONE, [1, 1], 1), (ONE, ONE, ONE),
                (ONE, ONE, ONE, 1, 1), (ONE, ONE, ONE, ONE), (1, 1, 1, 1), ((True, 1), ONE, ONE, 1), (ONE, ONE, ONE, None)]:
            self.assertIs(is_track(thing), False, thing)
        for thing in spoiled(REEL):
            self.assertIs(is_track(thing), False, thing)

    def test_bar_of_track(self):
        for track in TRACKS:
            if track[3] <= 6:
                bar = bar_of_track(track, 7)
                self.assertTrue(is_bar(bar) and is_plain(bar))
                self.assertEqual((bar[0], len(bar[1])), (track[0], 2 * track[3]))
                self.check_lines(track, bar)

    def check_lines(self, track, bar):
        length, right, left, starts = track
        self.assertEqual({own[1:] for own in bar[1]}, {(O, length, 7)})
        for lead in (told(right), -told(left)):
            lines = [own[0] for own in bar[1] if told(own[0][1]) == lead]
            self.assertEqual(len(lines), starts)
            for number in range(starts):
                point = (O, pair(Fraction(number, starts)))
                self.assertEqual(sum(goes_through(line, point) for line in lines), 1)

    def test_track_of(self):
        for number, track in enumerate(TRACKS):
            if track[3] <= 6:
                bar = bar_of_track(track, 2)
                self.assertEqual(track_of(bar), track)
                self.assertEqual(track_of(turned_by_hand(bar, Fraction(number % 11, 11))), track)
                deeper = tuple(sorted(own[:3] + (at + 1,) for at, own in enumerate(bar[1])))
                self.assertEqual(track_of((bar[0], deeper)), track)

    def test_track_of_what_is_none(self):
        length, grooves = bar_of_track(REEL, 2)
        right = [own for own in grooves if told(own[0][1]) > 0]
        left = [own for own in grooves if told(own[0][1]) < 0]
        line = right[0][0]
        for some in [(), right, left, grooves[1:], right + left[:1], list(grooves) + [(("flute", O), O, length, 1)],
                     list(grooves) + [(("ring", ONE), ONE, ONE, 1)], list(grooves) + [(("lead", ONE, O), O, length, 1)],
                     [(line, O, TWO, 2)] + right[1:] + left, [(line, O, TWO, 2), (line, TWO, THREE, 1)] + right[1:] + left,
                     [(("lead", THREE, HALF), O, length, 2)] + right[1:] + left, right + list(turned_by_hand((length, left), Fraction(1, 3))[1]),
                     list(turned_by_hand((length, right[:1]), Fraction(1, 3))[1]) + list(turned_by_hand((length, left[:1]), Fraction(1, 7))[1])]:
            self.assertRaises(Unfit, track_of, (length, tuple(sorted(some))))
        # as it would be a TRACK but for the beat
        self.assertRaises(Unfit, track_of, ((5, 2), tuple((own[0], O, (5, 2), 1) for own in grooves)))
        # all leads one way; two ways to cut one GROOVE
        self.assertRaises(Unfit, track_of, (ONE, ((("lead", ONE, O), O, ONE, 1), (("lead", TWO, O), O, ONE, 1))))
        self.assertRaises(Unfit, track_of, (ONE, ((("lead", (-2, 1), O), O, ONE, 1), (("lead", (-1, 1), O), O, ONE, 1))))
        cut = [(line, O, TWO, 2), (line, ONE, THREE, 2)] + right[1:] + left
        self.assertEqual(track_of((length, tuple(sorted(cut)))), REEL)

    def test_uneven_starts(self):
        lines = [("lead", lead, phase) for lead, phase in [(TWO, O), (TWO, HALF), ((-2, 1), O), ((-2, 1), (3, 2))]]
        self.assertRaises(Unfit, track_of, (ONE, tuple(sorted((own, O, ONE, 1) for own in lines))))


class Going(unittest.TestCase):
    def test_where_it_is(self):
        for track in TRACKS[::2]:
            for start in sorted({0, track[3] // 2, track[3] - 1}):
                grooves = grooves_by_hand(track, start, 5)
                looked = [own[2] + (own[3] - own[2]) * Fraction(part, 5) for own in grooves for part in range(5)]
                for turns in looked:
                    groove = groove_there(grooves, turns)
                    place, angle = point_by_hand(track, groove, turns)
                    self.assertEqual(pawl_at(track, start, pair(turns)), (pair(place), pair(angle)))
                    self.assertEqual(groove_at(track, start, pair(turns)), groove[:2])

    def test_start_after_and_rounds(self):
        for track in TRACKS:
            for start in sorted({0, track[3] // 3, track[3] - 1}):
                grooves = grooves_by_hand(track, start, track[3] + 2)
                came = [own[1] for own in grooves[::2]]
                self.assertEqual([start_after(track, start, many) for many in range(len(came))], came)
                many = came.index(start, 1)
                self.assertEqual(round_of(track), (many, pair(grooves[2 * many][2])))
                self.assertEqual(starts_met(track, start), tuple(sorted(set(came))))
                self.assertEqual(start_after(track, start, FAR), came[FAR % many])
                self.assertIs(comes_through(track), len(set(came)) == track[3])

    def test_far_turns(self):
        for track in TRACKS[::5]:
            many, turns = round_of(track)
            goings = FAR // (2 * many) * many
            gone = told(turns) * (goings // many)
            for more in (Fraction(0), Fraction(1, 3), told(turns_of(track)[0]), Fraction(11, 7)):
                self.assertEqual(pawl_at(track, 0, pair(gone + more)), pawl_at(track, 0, pair(more)))
                self.assertEqual(groove_at(track, 0, pair(gone + more)), groove_at(track, 0, pair(more)))

    def test_divisors(self):
        for track in TRACKS:
            divisors = [number for number in range(2, 50) if beat_of(track) % number == 0 == track[3] % number]
            if divisors:
                self.assertEqual((comes_through(track), divisor_paper(track)), (False, divisors[0]))
            else:
                self.assertIs(comes_through(track), True)
                self.assertRaises(NoPaper, divisor_paper, track)
            for number in range(-6, 50):
                self.assertIs(is_divisor_paper(track, number), number in divisors)
            for thing in STRANGE + [True, "2", (2,), [2], None, TWO, -2, 0, 1]:
                self.assertIs(is_divisor_paper(track, thing), False, thing)

    def test_crossing_places(self):
        for track in TRACKS:
            if track[3] > 6:
                continue
            length, right, left, starts = track
            places = {Fraction(0)}
            for one, other, number in product(range(starts), range(starts), range(-9, 20)):
                place = (Fraction(other - one, starts) + number) / (1 / told(right) + 1 / told(left))
                places |= {place} if 0 <= place <= told(length) else set()
            self.assertEqual(crossing_places(track), tuple(pair(own) for own in sorted(places)), track)
        self.assertEqual(len(crossing_places(((400, 1), TWO, TWO, 1))), 401)


class Meeting(unittest.TestCase):
    def test_turns_to(self):
        some = 0
        for track in TRACKS[::3] + [REEL, LAME]:
            if track[3] > 6:
                continue
            length, starts = told(track[0]), track[3]
            grooves = [grooves_by_hand(track, start, starts) for start in range(starts)]
            points = [(length * Fraction(at, 6), Fraction(by, 12)) for at in range(7) for by in range(0, 12, 1 + at % 2)]
            points += [point_by_hand(track, own, own[2] + (own[3] - own[2]) / 3) for own in grooves[0][::3]]
            for place, angle in points + [(length + Fraction(1, 9), Fraction(0)), (Fraction(-1), Fraction(0))]:
                first = [self.first_at(track, own, place, angle) for own in grooves]
                point = (pair(place), pair(angle))
                self.assertEqual([turns_to(track, start, point) for start in range(starts)],
                                 [None if own is None else pair(own) for own in first])
                self.assertEqual(starts_through(track, point), tuple(own for own in range(starts) if first[own] is not None))
                some += sum(own is not None for own in first)
        self.assertGreater(some, 150)

    def first_at(self, track, grooves, place, angle):
        if not 0 <= place <= told(track[0]):
            return None
        for word, number, start, end in grooves:
            turns = start + (place / told(track[1]) if word == "right" else (told(track[0]) - place) / told(track[2]))
            if point_by_hand(track, (word, number, start, end), turns)[1] == angle:
                return turns
        return None

    def test_pawls_meet(self):
        chance, some = random.Random(8), {True: 0, False: 0}
        for track in TRACKS[::2] + [REEL]:
            starts = track[3]
            for _ in range(6):
                start, other = chance.randrange(starts), chance.randrange(starts)
                late = Fraction(other - start, starts) % 1 + chance.randrange(4)
                if chance.randrange(5) == 0:
                    late += Fraction(1, 2 * starts + 1)
                met = self.meet_by_hand(track, start, other, late)
                self.assertEqual(pawls_meet(track, start, other, pair(late)), None if met is None else pair(met))
                some[met is None] += 1
        self.assertTrue(min(some.values()) > 20, some)

    def meet_by_hand(self, track, start, other, late):
        """The least turns at which two grooves, or one for both, have them at one point."""
        cycle = sum(map(told, turns_of(track)))
        first = [own for own in grooves_by_hand(track, start, int(late / cycle) + 3) if own[3] >= late]
        second = grooves_by_hand(track, other, 2)
        found = []
        for one in first:
            for two in second:
                begin, end = max(one[2], two[2] + late), min(one[3], two[3] + late)
                if begin > end:
                    continue
                ends = []
                for turns in (begin, end):
                    places = point_by_hand(track, one, turns)[0], point_by_hand(track, two, turns - late)[0]
                    ends.append(places[0] - places[1])
                if ends[0] * ends[1] <= 0:
                    turns = begin if ends[0] == 0 else begin + (end - begin) * ends[0] / (ends[0] - ends[1])
                    if point_by_hand(track, one, turns)[1] == point_by_hand(track, two, turns - late)[1]:
                        found.append(turns)
        return min(found) if found else None

    def test_pawls_that_begin_together(self):
        self.assertEqual(pawls_meet(REEL, 0, 0, O), O)
        self.assertIsNone(pawls_meet(REEL, 0, 1, O))
        self.assertEqual(pawls_meet(REEL, 0, 0, THREE), THREE)
        self.assertEqual(pawls_meet(REEL, 0, 1, (3, 2)), (3, 2))
        self.assertEqual(pawls_meet(REEL, 0, 0, (10 ** 6, 1)), pair(Fraction(10 ** 6) + Fraction(1, 3)))

    def test_least_length(self):
        for right, left, starts in product([ONE, (3, 2), (7, 1)], [ONE, (2, 3)], [1, 2, 3, 6, 30]):
            for low in (HALF, (1, 1000), (9, 2), (22, 7), (100, 1)):
                length = least_length(right, left, starts, low)
                beat = 1
                while Fraction(beat, starts) / (1 / told(right) + 1 / told(left)) < told(low) or gcd(beat, starts) > 1:
                    beat += 1
                self.assertEqual(told(length), Fraction(beat, starts) / (1 / told(right) + 1 / told(left)))
                self.assertTrue(comes_through((length, right, left, starts)))

    def test_least_length_that_is_the_low_one(self):
        self.assertEqual(least_length(THREE, (6, 1), 2, THREE), THREE)
        self.assertEqual(least_length(THREE, (6, 1), 2, (4, 1)), (5, 1))
        self.assertEqual(least_length(ONE, ONE, 1, (1, 1000)), HALF)


class Errors(unittest.TestCase):
    def test_no_start(self):
        for track in (REEL, (ONE, ONE, ONE, 1)):
            for start in (-1, track[3], 10 ** 40):
                for call in [(start_after, track, start, 0), (pawl_at, track, start, O), (groove_at, track, start, O),
                             (starts_met, track, start), (turns_to, track, start, ((9, 1), O)),
                             (pawls_meet, track, start, 99, HALF), (pawls_meet, track, 0, start, HALF)]:
                    with self.assertRaises(NoStart) as caught:
                        call[0](*call[1:])
                    self.assertEqual(caught.exception.number, start)


if __name__ == "__main__":
    unittest.main()
