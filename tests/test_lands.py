"""[14]: lands, walked about in steps, and counted by corners."""

import random
import unittest
from fractions import Fraction
from math import ceil, floor

from screwshop.bars import plain_bar
from screwshop.errors import NoGroove, TooMany, Unfit
from screwshop.lands import (Sheet, area_of, corner_book, corners_of, goes_along, goes_round, how_many_lands, is_mark,
                             land_at, lands_of, lands_without, neighbours_of, parted_by, same_land, span_of)
from tests.support import STRANGE, spoiled
from tests.test_bars import depth_by_hand
from tests.test_crossings import meets_by_hand, turn_at
from tests.test_lines import lies_on, pair, told

O, HALF, ONE, TWO, THREE = (0, 1), (1, 2), (1, 1), (2, 1), (3, 1)
RIGHT, LEFT, FLUTE, OTHER = ("lead", ONE, O), ("lead", (-1, 1), O), ("flute", O), ("flute", HALF)
LINES = [RIGHT, ("lead", ONE, HALF), LEFT, ("lead", TWO, O), ("lead", (-2, 1), ONE), FLUTE, OTHER, ("flute", (1, 4)),
         ("ring", O), ("ring", ONE), ("ring", (3, 2)), ("ring", TWO), ("lead", HALF, O)]
TINY = Fraction(1, 10 ** 7)


def a_bar(length, *grooves):
    return (length, tuple(sorted(grooves)))


def ring(place, depth=1):
    return (("ring", place), place, place, depth)


def some_bars(many, seed=4):
    chance = random.Random(seed)
    return [a_bar(TWO, *{some_groove(chance) for _ in range(chance.randrange(1, 7))}) for _ in range(many)]


def some_groove(chance):
    line, depth = chance.choice(LINES), chance.randrange(1, 4)
    if line[0] == "ring":
        return ring(line[1], depth)
    start, end = sorted(chance.sample(range(5), 2)) if chance.randrange(2) else (0, 4)
    return (line, pair(Fraction(start, 2)), pair(Fraction(end, 2)), depth)


BY_HAND = [
    (TWO, ()), a_bar(TWO, (FLUTE, O, TWO, 1)), a_bar(TWO, (FLUTE, O, TWO, 1), (OTHER, O, TWO, 1)), a_bar(TWO, ring(ONE)),
    a_bar(TWO, ring(O), ring(TWO)), a_bar(TWO, ring(O), ring(ONE), ring((3, 2), 2)), a_bar(TWO, (RIGHT, O, TWO, 1)),
    a_bar(TWO, (RIGHT, HALF, (3, 2), 1)), a_bar(TWO, (RIGHT, O, TWO, 2), (LEFT, O, TWO, 1)),
    a_bar(TWO, (FLUTE, O, ONE, 1), ring(ONE)), a_bar(TWO, (FLUTE, HALF, (3, 2), 1), ring(ONE)),
    a_bar(TWO, (FLUTE, HALF, ONE, 1), (OTHER, ONE, (3, 2), 2), ring(ONE, 3)),
    a_bar(TWO, (FLUTE, O, ONE, 1), (FLUTE, ONE, TWO, 2), (OTHER, O, TWO, 1)),
    a_bar(TWO, (RIGHT, O, ONE, 1), (LEFT, ONE, TWO, 1)), a_bar(TWO, (RIGHT, HALF, ONE, 1), (LEFT, HALF, ONE, 1)),
    a_bar(TWO, (("lead", HALF, O), O, TWO, 1), (LEFT, O, TWO, 1), ring(O, 4)),
    a_bar(TWO, (("lead", ONE, O), O, TWO, 1), (("lead", ONE, HALF), O, TWO, 1), ring(TWO)),
    a_bar((1, 3), (("flute", (1, 7)), O, (1, 3), 1)), a_bar((7, 24), (("lead", (1, 24), (1, 48)), (1, 24), (1, 4), 2)),
]
# LANDS that go round, and some that do not, between GROOVES that end: at no PLACE there is a way all round
WINDING = [
    a_bar(TWO, (FLUTE, O, (5, 4), 1), (OTHER, (3, 4), TWO, 1)), a_bar(TWO, (FLUTE, O, TWO, 1), (OTHER, HALF, (3, 2), 2)),
    a_bar(TWO, (RIGHT, O, TWO, 2), (OTHER, (3, 4), (5, 4), 1)), a_bar(TWO, (RIGHT, O, (5, 4), 2), (OTHER, (3, 4), TWO, 1)),
    a_bar(TWO, (RIGHT, O, ONE, 2), (OTHER, (3, 4), TWO, 1), (("flute", (3, 4)), (1, 4), ONE, 1)),
    a_bar(TWO, (FLUTE, O, ONE, 1), (OTHER, (3, 4), (3, 2), 1), (("flute", (1, 4)), (5, 4), TWO, 1)),
    a_bar(TWO, (("lead", TWO, O), O, TWO, 1), (("lead", TWO, ONE), HALF, (3, 2), 1), (("lead", TWO, HALF), HALF, ONE, 1)),
    a_bar(TWO, (("lead", (-2, 1), O), O, (3, 2), 1), (("lead", (-2, 1), ONE), HALF, TWO, 1)),
    a_bar(TWO, (("lead", (-1, 1), O), O, (3, 2), 1), (("lead", (-1, 1), HALF), HALF, TWO, 1)),
    a_bar(TWO, (FLUTE, O, (3, 2), 1), (OTHER, HALF, TWO, 1), (("flute", (1, 4)), (3, 4), ONE, 1), (("flute", (3, 4)), O, HALF, 1)),
]
BARS = BY_HAND + WINDING + some_bars(40)


def corners_by_hand(bar):
    """All CORNERS as pairs of Fractions."""
    found = {point for point, _ in meets_by_hand(bar)}
    for line, start, end, _ in bar[1]:
        if line[0] != "ring":
            found |= {(told(place), turn_at(line, told(place)) % 1) for place in (start, end)}
    return found


def book_by_hand(bar):
    """[14] word by word: CORNERS, stretches, pieces."""
    corners, length = corners_by_hand(bar), told(bar[0])
    circles = {Fraction(0), length} | {told(line[1]) for line, _, _, _ in bar[1] if line[0] == "ring"}
    threads = [[own for own in corners if own[0] == place] or [(place, None)] for place in sorted(circles)]
    stretches = sum(map(len, threads))
    for line, start, end, _ in bar[1]:
        if line[0] != "ring":
            threads.append([own for own in corners if told(start) <= own[0] <= told(end) and lies_on(line, *own)])
            stretches += len(threads[-1]) - 1
    many, pieces = len({own for thread in threads for own in thread}), []
    for thread in threads:
        joined = [piece for piece in pieces if piece & set(thread)]
        pieces = [piece for piece in pieces if not piece & set(thread)] + [set(thread).union(*joined)]
    return (many, stretches, len(pieces))


def is_cut_along(bar, start, end, angle):
    """Whether a groove lies between two places at one angle."""
    for line, low, high, _ in bar[1]:
        near, far = max(start, told(low)), min(end, told(high))
        if near <= far and (line[0] == "ring" or is_met(turn_at(line, near) - angle, turn_at(line, far) - angle)):
            return True
    return False


def is_cut_round(bar, place, low, high):
    """Whether a groove lies at this place between two angles, counted on."""
    for line, start, end, _ in bar[1]:
        if told(start) <= place <= told(end):
            if line[0] == "ring" or is_met(low - turn_at(line, place), high - turn_at(line, place)):
                return True
    return False


def is_met(one, other):
    return ceil(min(one, other)) <= floor(max(one, other))


class Walk:
    """All pieces that steps on a net of points reach, each with whether they lead round."""

    def __init__(self, bar, along=14, around=15):
        self.along = [told(bar[0]) * (own + Fraction(3, 101)) / along for own in range(along)]
        self.around = [(own + Fraction(5, 103)) / around for own in range(around)]
        self.homes, self.rounds = {}, []
        self.steps = {}
        for at, place in enumerate(self.along):
            for by, angle in enumerate(self.around):
                after = self.around[by + 1] if by + 1 < around else self.around[0] + 1
                if not is_cut_round(bar, place, angle, after):
                    self.join((at, by), (at, (by + 1) % around), int(by + 1 == around))
                if at + 1 < along and not is_cut_along(bar, place, self.along[at + 1], angle):
                    self.join((at, by), (at + 1, by), 0)
        self.points = [(at, by) for at in range(along) for by in range(around)]
        for first in self.points:
            if first not in self.homes:
                self.walk(first)

    def join(self, one, other, turns):
        self.steps.setdefault(one, []).append((other, turns))
        self.steps.setdefault(other, []).append((one, -turns))

    def walk(self, first):
        turns, left = {first: 0}, [first]
        self.rounds.append(False)
        while left:
            point = left.pop()
            self.homes[point] = len(self.rounds) - 1
            for other, more in self.steps.get(point, []):
                if other not in turns:
                    turns[other] = turns[point] + more
                    left.append(other)
                self.rounds[-1] = self.rounds[-1] or turns[other] != turns[point] + more

    def point(self, own):
        return (pair(self.along[own[0]]), pair(self.around[own[1]]))


def sides_by_hand(bar):
    """The triples (number, POINT, POINT): just beside a groove, one on each side, between each two of its corners."""
    corners = corners_by_hand(bar)
    for number, (line, start, end, _) in enumerate(bar[1]):
        if line[0] == "ring":
            if 0 < told(start) < told(bar[0]):
                angles = sorted(angle for place, angle in corners if place == told(start)) or [Fraction(1, 7)]
                for low, high in zip(angles, angles[1:] + [angles[0] + 1]):
                    angle = (low + high) / 2 % 1
                    yield number, (told(start) - TINY, angle), (told(start) + TINY, angle)
        else:
            places = sorted(own[0] for own in corners if told(start) <= own[0] <= told(end) and lies_on(line, *own))
            for low, high in zip(places, places[1:]):
                place, angle = (low + high) / 2, turn_at(line, (low + high) / 2)
                yield number, (place, (angle - TINY) % 1), (place, (angle + TINY) % 1)


def point(own):
    return (pair(own[0]), pair(own[1]))


class Lands(unittest.TestCase):
    def test_steps_stay_in_one_land(self):
        rounds = 0
        for bar in BARS:
            sheet, walk = Sheet(bar), Walk(plain_bar(bar))
            lands = {}
            for own in walk.points:
                lands.setdefault(walk.homes[own], set()).add(sheet.land_at(walk.point(own)))
            self.assertTrue(all(len(some) == 1 and None not in some for some in lands.values()), bar)
            for home, some in lands.items():
                if walk.rounds[home]:
                    self.assertIs(goes_round(bar, sheet.marks[some.pop()]), True)
                    rounds += 1
        self.assertGreater(rounds, 20)

    def test_round(self):
        for bar in BY_HAND[:17] + WINDING + BARS[-12:]:
            sheet, walk = Sheet(bar), Walk(plain_bar(bar), 30, 24)
            found = {sheet.land_at(walk.point(own)) for own in walk.points if walk.rounds[walk.homes[own]]}
            self.assertEqual([goes_round(bar, mark) for mark in sheet.marks],
                             [land in found for land in range(len(sheet.marks))], bar)

    def test_how_many(self):
        for bar in BARS:
            corners, stretches, pieces = book_by_hand(plain_bar(bar))
            self.assertEqual(corner_book(bar), (corners, stretches, pieces), bar)
            self.assertEqual(how_many_lands(bar), stretches - corners + pieces - 1, bar)
            self.assertEqual(len(lands_of(bar)), stretches - corners + pieces - 1)

    def test_areas_and_spans(self):
        for bar in BARS:
            marks, walk = lands_of(bar), Walk(plain_bar(bar), 20, 21)
            areas = [told(area_of(bar, mark)) for mark in marks]
            self.assertEqual(sum(areas), told(bar[0]))
            sheet = Sheet(bar)
            many = [sheet.marks[sheet.land_at(walk.point(own))] for own in walk.points]
            for mark, area in zip(marks, areas):
                self.assertLess(abs(area / told(bar[0]) - Fraction(many.count(mark), len(many))), Fraction(1, 15), bar)
                self.check_span(plain_bar(bar), sheet, mark)

    def check_span(self, bar, sheet, mark):
        low, high = map(told, span_of(bar, mark))
        self.assertTrue(0 <= low < high <= told(bar[0]))
        land = sheet.marks.index(mark)
        for place, inside in [(low + TINY, True), (high - TINY, True), (low - TINY, False), (high + TINY, False)]:
            if 0 <= place <= told(bar[0]):
                self.assertIs(land in lands_at_place(bar, sheet, place), inside)

    def test_marks(self):
        for bar in BARS:
            plain, sheet = plain_bar(bar), Sheet(bar)
            self.assertEqual(lands_of(bar), sorted(sheet.marks))
            for land, mark in enumerate(sheet.marks):
                self.assertEqual(sheet.land_at(mark), land)
                self.check_mark(plain, sheet, land, mark)

    def check_mark(self, bar, sheet, land, mark):
        place, angle = mark
        for bottom in range(1, place[1] + 1):
            for top in range(floor(told(bar[0]) * bottom) + 1):
                own = Fraction(top, bottom)
                if own.denominator == bottom and (bottom, own) < (place[1], told(place)):
                    self.assertNotIn(land, lands_at_place(bar, sheet, own))
        for bottom in range(1, angle[1] + 1):
            for top in range(bottom):
                own = Fraction(top, bottom)
                if own.denominator == bottom and (bottom, own) < (angle[1], told(angle)):
                    self.assertNotEqual(sheet.land_at((place, pair(own))), land)

    def test_land_at(self):
        chance, deep = random.Random(2), 0
        for bar in BARS:
            sheet, length = Sheet(bar), told(bar[0])
            for _ in range(12):
                place, angle = length * Fraction(chance.randrange(13), 12), Fraction(chance.randrange(12), 12)
                land = land_at(bar, point((place, angle)))
                if depth_by_hand(bar, place, angle):
                    deep += 1
                    self.assertIsNone(land)
                else:
                    self.assertEqual(land, sheet.marks[sheet.land_at(point((place, angle)))])
        self.assertGreater(deep, 100)

    def test_same_land(self):
        for bar in BARS[::3]:
            places = [(told(bar[0]) * Fraction(own, 6), Fraction(by, 12)) for own, by in
                      [(0, 1), (1, 5), (2, 0), (3, 3), (4, 11), (5, 6), (6, 7), (3, 0), (6, 0)]]
            marks = [land_at(bar, point(own)) for own in places]
            for one, near in zip(places, marks):
                for other, far in zip(places, marks):
                    self.assertIs(same_land(bar, point(one), point(other)), near is not None and near == far)

    def test_is_mark(self):
        for bar in BARS[::4]:
            marks = lands_of(bar)
            for mark in marks:
                self.assertIs(is_mark(bar, mark), True)
                for thing in spoiled(mark) + [list(mark), [list(mark[0]), list(mark[1])], (mark,)]:
                    self.assertIs(is_mark(bar, thing), False, (bar, thing))
            for thing in STRANGE + [((9, 1), O), ((-1, 1), O), ((1, 997), (1, 991)), ((2, 2), O), ((True, 1), O), (O, ONE)]:
                self.assertIs(is_mark(bar, thing), False, thing)


def lands_at_place(bar, sheet, place):
    """The LANDS that have a POINT at this place: looked at between the angles of the grooves there."""
    angles = sorted({turn_at(line, place) % 1 for line, start, end, _ in bar[1]
                     if line[0] != "ring" and told(start) <= place <= told(end)}) or [Fraction(1, 7)]
    middles = [(low + high) / 2 % 1 for low, high in zip(angles, angles[1:] + [angles[0] + 1])]
    return {sheet.land_at(point((place, angle))) for angle in middles}


class Beside(unittest.TestCase):
    def test_walls(self):
        with_itself = 0
        for bar in BARS:
            plain, sheet = plain_bar(bar), Sheet(bar)
            parted = {}
            for number, one, other in sides_by_hand(plain):
                lands = tuple(sorted([sheet.land_at(point(one)), sheet.land_at(point(other))]))
                parted.setdefault(lands, set()).add(number)
            for land, mark in enumerate(sheet.marks):
                beside = [sheet.marks[own] for own in range(len(sheet.marks))
                          if own != land and tuple(sorted([own, land])) in parted]
                self.assertEqual(neighbours_of(bar, mark), sorted(beside), bar)
                for other, far in enumerate(sheet.marks):
                    numbers = parted.get(tuple(sorted([land, other])), set())
                    self.assertEqual(parted_by(bar, mark, far), tuple(sorted(numbers)), bar)
                    with_itself += bool(numbers) and land == other
        self.assertGreater(with_itself, 20)

    def test_corners(self):
        for bar in BARS:
            plain, sheet = plain_bar(bar), Sheet(bar)
            at_edge = [[] for _ in sheet.marks]
            for corner in corners_by_hand(plain):
                for land in self.lands_round(plain, sheet, corner):
                    at_edge[land].append(point(corner))
            for land, mark in enumerate(sheet.marks):
                self.assertEqual(corners_of(bar, mark), sorted(at_edge[land]), bar)

    def lands_round(self, bar, sheet, corner):
        """The LANDS of POINTS all round a corner, near it."""
        found = set()
        for own in range(-12, 13):
            for place, angle in [(12, own), (-12, own), (own, 12), (own, -12)]:
                place, angle = corner[0] + (place + Fraction(1, 97)) * TINY, (corner[1] + angle * TINY) % 1
                if 0 <= place <= told(bar[0]):
                    found.add(sheet.land_at(point((place, angle))))
        return found - {None}

    def test_along(self):
        some = set()
        for bar in BARS:
            plain, sheet = plain_bar(bar), Sheet(bar)
            near, far = [lands_at_place(plain, sheet, own) - {None} for own in (Fraction(0), told(bar[0]))]
            self.assertEqual(goes_along(bar), sorted(sheet.marks[land] for land in near & far), bar)
            some.add(len(near & far))
        self.assertLessEqual({0, 1, 2}, some)

    def test_without(self):
        for bar in BARS[::2]:
            length, grooves = plain_bar(bar)
            for number in range(len(grooves)):
                left = grooves[:number] + grooves[number + 1:]
                self.assertEqual(lands_without(bar, number), how_many_lands((length, left)))
            for number in (-1, len(grooves), 10 ** 40):
                with self.assertRaises(NoGroove) as caught:
                    lands_without(bar, number)
                self.assertEqual(caught.exception.number, number)

    def test_numbers_are_those_of_the_plain_bar(self):
        # two of one LINE that overlap are one GROOVE: the ring is 1, not 2
        bar = a_bar(TWO, (FLUTE, O, ONE, 1), (FLUTE, HALF, TWO, 1), ring(ONE))
        low, high = lands_of(bar)
        self.assertEqual((parted_by(bar, low, high), parted_by(bar, low, low)), ((1,), (0,)))
        self.assertEqual(lands_without(bar, 1), 1)
        self.assertRaises(NoGroove, lands_without, bar, 2)

    def test_touching_in_points_alone(self):
        braid = a_bar(TWO, (RIGHT, O, TWO, 1), (LEFT, O, TWO, 1))
        low, high = land_at(braid, (O, HALF)), land_at(braid, (ONE, HALF))
        self.assertEqual(corners_of(braid, low), [(O, O), (HALF, HALF)])
        self.assertEqual(corners_of(braid, high), [(ONE, O), (HALF, HALF), ((3, 2), HALF)])
        self.assertEqual((neighbours_of(braid, low).count(high), parted_by(braid, low, high)), (0, ()))


class Told(unittest.TestCase):
    def test_round_along_both_neither(self):
        for grooves, rounds, along in [
                ([], [True], 1), ([(FLUTE, O, TWO, 1)], [False], 1), ([ring(ONE)], [True, True], 0),
                ([(RIGHT, O, TWO, 1)], [False], 1), ([(RIGHT, O, ONE, 1)], [True], 1), ([ring(O)], [True], 0),
                ([ring(O), ring(TWO)], [True], 0), ([ring(ONE), (FLUTE, O, TWO, 1)], [False, False], 0),
                ([ring(HALF), (FLUTE, HALF, TWO, 1)], [True, False], 0), ([(FLUTE, HALF, (3, 2), 1)], [True], 1),
                ([(FLUTE, O, ONE, 1), (OTHER, ONE, TWO, 1)], [True], 1), ([(FLUTE, O, TWO, 1), (OTHER, O, TWO, 1)], [False] * 2, 2),
                ([(FLUTE, O, (5, 4), 1), (OTHER, (3, 4), TWO, 1)], [True], 1),
                ([(FLUTE, O, TWO, 1), (OTHER, (3, 4), (5, 4), 1)], [False], 1),
                ([(RIGHT, O, TWO, 1), (OTHER, (3, 4), (5, 4), 1)], [False], 1),
                ([(("lead", ONE, O), O, ONE, 1), (("lead", (-1, 1), O), O, ONE, 1)], [True, False, False], 0)]:
            bar = a_bar(TWO, *grooves)
            self.assertEqual(sorted(goes_round(bar, mark) for mark in lands_of(bar)), sorted(rounds), bar)
            self.assertEqual(len(goes_along(bar)), along, bar)

    def test_marks_of_several_points_of_one_bottom(self):
        self.assertEqual(lands_of((THREE, ())), [(O, O)])
        self.assertEqual(lands_of(a_bar(THREE, ring(O))), [(ONE, O)])
        self.assertEqual(lands_of(a_bar(THREE, ring(O), ring(ONE), ring(TWO), ring(THREE))), [(HALF, O), ((3, 2), O), ((5, 2), O)])
        self.assertEqual(lands_of(a_bar(THREE, (FLUTE, O, THREE, 1))), [(O, HALF)])
        self.assertEqual(lands_of(a_bar(ONE, (FLUTE, O, ONE, 1), (OTHER, O, ONE, 1))), [(O, (1, 3)), (O, (2, 3))])
        self.assertEqual(lands_of(a_bar((7, 24), ring((1, 24)))), [(O, O), ((1, 4), O)])
        self.assertEqual(lands_of(a_bar((1, 3), ring((7, 24)))), [(O, O), ((1, 3), O)])
        self.assertEqual(lands_of(a_bar((1, 3), ring((7, 24)), ring((1, 3)))), [(O, O), ((3, 10), O)])

    def test_beyond_the_ends(self):
        bar = BARS[8]
        for place in ((-1, 1000), (2001, 1000), (3, 1)):
            self.assertRaises(Unfit, land_at, bar, (place, O))
            self.assertRaises(Unfit, same_land, bar, (place, O), (O, O))
            self.assertRaises(Unfit, same_land, bar, (O, O), (place, O))

    def test_no_marks(self):
        bar = BARS[8]
        marks = lands_of(bar)
        for no_mark in ((ONE, (1, 7)), ((3, 1), O), (O, O), ((1, 1), (999, 1000))):
            for call in [(area_of, bar, no_mark), (span_of, bar, no_mark), (goes_round, bar, no_mark),
                         (neighbours_of, bar, no_mark), (parted_by, bar, no_mark, marks[0]),
                         (parted_by, bar, marks[0], no_mark), (corners_of, bar, no_mark)]:
                self.assertRaises(Unfit, *call)


class Many(unittest.TestCase):
    def test_not_one_below_it(self):
        length = (239, 1)
        # 240 crossings of both; the short one has two ends more, and meets the thread in so many places
        for end, many in (((158, 1), 400), ((159, 1), 401)):
            bar = a_bar(length, (FLUTE, O, length, 1), (RIGHT, O, length, 2), (OTHER, O, end, 1))
            self.assertEqual(len(corners_by_hand(bar)), many)
            if many == 400:
                self.assertEqual(corner_book(bar), book_by_hand(bar))
                self.assertEqual(how_many_lands(bar), len(lands_of(bar)))
                corners, stretches, pieces = corner_book(bar)
                self.assertEqual(how_many_lands(bar), stretches - corners + pieces - 1)
            else:
                self.check_too_many(bar)
        # an end and a ring that count as if they had a CORNER do not make it too many
        bar = a_bar((240, 1), (FLUTE, O, (239, 1), 1), (RIGHT, O, (239, 1), 2), (OTHER, O, (158, 1), 1), ring((479, 2)))
        self.assertEqual(corner_book(bar)[0], 402)
        self.check_too_many(a_bar((240, 1), (("lead", (1, 24), O), O, (240, 1), 1), (("lead", (-1, 24), O), O, (240, 1), 1)))

    def check_too_many(self, bar):
        far = ((999, 1), O)
        for call in [(lands_of, bar), (how_many_lands, bar), (land_at, bar, (ONE, O)), (same_land, bar, (ONE, O), (ONE, O)),
                     (area_of, bar, far), (span_of, bar, far), (goes_round, bar, far), (goes_along, bar),
                     (neighbours_of, bar, far), (parted_by, bar, far, far), (corners_of, bar, far), (corner_book, bar),
                     (lands_without, bar, 0), (lands_without, bar, len(bar[1]) - 1)]:
            self.assertRaises(TooMany, *call)
        for thing in STRANGE:
            self.assertRaises(TooMany, is_mark, bar, thing)
        self.assertRaises(Unfit, land_at, bar, far)
        self.assertRaises(Unfit, same_land, bar, (ONE, O), far)
        self.assertRaises(NoGroove, lands_without, bar, len(bar[1]))


if __name__ == "__main__":
    unittest.main()
