"""[5]: lines, looked at POINT by POINT."""

import unittest
from fractions import Fraction

from screwshop.errors import Unfit
from screwshop.lines import (angle_on, ends_turned, goes_through, is_line, lead_starts, line_at, line_mirrored,
                             line_moved, line_through, lines_meet, next_on, steepness, turns_made)
from tests.support import STRANGE, spoiled

LINES = [("ring", (0, 1)), ("ring", (-7, 4)), ("ring", (5, 2)), ("flute", (0, 1)), ("flute", (2, 3)),
         ("flute", (1, 2)), ("lead", (1, 1), (0, 1)), ("lead", (1, 2), (1, 8)), ("lead", (-1, 2), (1, 8)),
         ("lead", (3, 1), (5, 2)), ("lead", (-3, 1), (1, 2)), ("lead", (-7, 3), (0, 1)), ("lead", (1, 1000), (0, 1)),
         ("lead", (10 ** 6, 1), (999999, 1)), ("lead", (1, 1), (1, 2))]
PLACES = [(0, 1), (1, 1), (-1, 1), (1, 8), (5, 2), (-7, 4), (10 ** 6, 1), (-10 ** 6, 999), (5, 8), (1, 3)]
ANGLES = [(0, 1), (1, 2), (1, 3), (2, 3), (1, 4), (3, 4), (999, 1000), (1, 1000)]
MOTIONS = [((0, 1), (0, 1)), ((1, 4), (1, 2)), ((-5, 3), (2, 3)), ((10 ** 6, 7), (1, 1000)), ((1, 1), (0, 1))]


def told(pair):
    return Fraction(*pair)


def pair(value):
    return (value.numerator, value.denominator)


def lies_on(line, place, angle):
    """[3] word by word."""
    if line[0] == "ring":
        return told(line[1]) == place
    if line[0] == "flute":
        return told(line[1]) == angle % 1
    return ((place - told(line[1]) * angle - told(line[2])) / told(line[1])).denominator == 1


def points_on(line):
    """Some POINTS of line as pairs of Fractions."""
    if line[0] == "ring":
        return [(told(line[1]), told(angle)) for angle in ANGLES]
    if line[0] == "flute":
        return [(told(place), told(line[1])) for place in PLACES]
    return [(told(line[2]) + told(line[1]) * (told(angle) + whole), told(angle))
            for angle in ANGLES for whole in (-3, 0, 7)]


def point(place, angle):
    return (pair(place), pair(angle % 1))


class Shapes(unittest.TestCase):
    def test_what_a_line_is(self):
        for line in LINES + [("ring", (-10 ** 40, 7)), ("flute", (10 ** 40 - 1, 10 ** 40)),
                             ("lead", (-1, 2), (0, 1)), ("lead", (1, 10 ** 9), (0, 1))]:
            self.assertIs(is_line(line), True, line)

    def test_what_no_line_is(self):
        for thing in STRANGE + [("lead", (1, 2), (1, 2)), ("lead", (1, 2), (-1, 8)), ("lead", (-1, 2), (-1, 8)),
                                ("lead", (-1, 2), (1, 2)), ("lead", (0, 1), (0, 1)), ("flute", (1, 1)),
                                ("flute", (-1, 2)), ("flute", (3, 2)), ("ring", (2, 4)), ("ring", (0, 2)),
                                ("ring", (1, -1)), ("ring", (1, 0)), ("ring", (True, 1)), ("ring", (1, True)),
                                ("flute", (False, 1)), ["ring", (0, 1)], ("ring", [0, 1]), ("Ring", (0, 1)),
                                ("lead", (2, 2), (0, 1)), ("lead", (1, 1), (2, 4)), ("lead", (1, 1)),
                                ("flute", (0, 1), (0, 1)), (("ring",), (0, 1)), ("lead", (1, 1), (0, True))]:
            self.assertIs(is_line(thing), False, thing)
        for line in LINES:
            for thing in spoiled(line):
                self.assertIs(is_line(thing), False, thing)


class Points(unittest.TestCase):
    def test_goes_through(self):
        for line in LINES:
            for place in PLACES:
                for angle in ANGLES:
                    self.assertIs(goes_through(line, (place, angle)), lies_on(line, told(place), told(angle)))
            for place, angle in points_on(line):
                self.assertIs(goes_through(line, point(place, angle)), True)
                self.assertIs(goes_through(line, point(place + Fraction(1, 7919), angle)), line[0] == "flute")

    def test_line_at(self):
        for lead in [(1, 2), (-1, 2), (3, 1), (-7, 3), (1, 1000)]:
            for place in PLACES:
                for angle in ANGLES:
                    line = line_at(lead, (place, angle))
                    self.assertTrue(is_line(line) and line[1] == lead)
                    self.assertTrue(lies_on(line, told(place), told(angle)))

    def test_angle_on(self):
        for line in LINES:
            for place in PLACES:
                angle = angle_on(line, place)
                if line[0] == "ring":
                    self.assertEqual(angle, "all" if line[1] == place else None)
                else:
                    self.assertTrue(0 <= told(angle) < 1 and lies_on(line, told(place), told(angle)))

    def test_next_on(self):
        for line in LINES:
            for angle in ANGLES:
                for place in PLACES:
                    self.check_next_on(line, angle, place)

    def check_next_on(self, line, angle, place):
        found = next_on(line, angle, place)
        if line[0] == "ring":
            self.assertEqual(found, line[1] if told(line[1]) >= told(place) else None)
        elif line[0] == "flute":
            self.assertEqual(found, place if line[1] == angle else None)
        else:
            ahead = told(found) - told(place)
            self.assertTrue(lies_on(line, told(found), told(angle)) and 0 <= ahead < abs(told(line[1])))


class Changes(unittest.TestCase):
    def test_moved(self):
        for line in LINES:
            for motion in MOTIONS:
                moved = line_moved(line, motion)
                self.assertTrue(is_line(moved) and moved[0] == line[0])
                for place, angle in points_on(line):
                    self.assertTrue(lies_on(moved, place + told(motion[0]), (angle + told(motion[1])) % 1))
                back = (pair(-told(motion[0])), pair(-told(motion[1]) % 1))
                self.assertEqual(line_moved(moved, back), line)

    def test_mirrored(self):
        for line in LINES:
            mirrored = line_mirrored(line)
            self.assertTrue(is_line(mirrored))
            for place, angle in points_on(line):
                self.assertTrue(lies_on(mirrored, place, -angle % 1))
            self.assertEqual(line_mirrored(mirrored), line)
        self.assertEqual(line_mirrored(("flute", (0, 1))), ("flute", (0, 1)))

    def test_ends_turned(self):
        for line in LINES:
            for length in [(1, 1), (7, 3), (10 ** 6, 1), (1, 1000)]:
                turned = ends_turned(line, length)
                self.assertTrue(is_line(turned))
                for place, angle in points_on(line):
                    self.assertTrue(lies_on(turned, told(length) - place, -angle % 1))
                self.assertEqual(ends_turned(turned, length), line)

    def test_starts(self):
        self.assertEqual(lead_starts((1, 1), 1, (-1, 4)), (("lead", (1, 1), (3, 4)),))
        # by comparison of the pairs, not by value
        self.assertEqual([line[2] for line in lead_starts((1, 1), 4, (0, 1))], [(0, 1), (1, 2), (1, 4), (3, 4)])
        for lead in [(1, 2), (-3, 1), (5, 7)]:
            for many in (1, 2, 3, 24):
                for phase in PLACES:
                    lines = lead_starts(lead, many, phase)
                    wanted = {(told(phase) + own * abs(told(lead)) / many) % abs(told(lead)) for own in range(many)}
                    self.assertEqual({told(line[2]) for line in lines}, wanted)
                    self.assertEqual(lines, tuple(sorted(set(lines))))
                    self.assertTrue(all(is_line(line) and line[1] == lead for line in lines))
                    self.assertTrue(any(goes_through(line, (phase, (0, 1))) for line in lines))


class Two(unittest.TestCase):
    def test_meet(self):
        for one in LINES:
            for other in LINES:
                alike = one[0] == other[0] and (one[0] != "lead" or one[1] == other[1])
                self.assertIs(lines_meet(one, other), one == other or not alike)

    def test_steepness(self):
        for line in LINES:
            if line[0] == "lead":
                self.assertEqual(steepness(line), pair(1 / told(line[1])))
        self.assertEqual(steepness(("flute", (1, 2))), (0, 1))
        self.assertIsNone(steepness(("ring", (1, 2))))

    def test_turns_made(self):
        for line in LINES:
            for place in PLACES:
                for end in PLACES:
                    if line[0] == "ring":
                        self.assertRaises(Unfit, turns_made, line, place, end)
                    else:
                        way = Fraction(0) if line[0] == "flute" else (told(end) - told(place)) / told(line[1])
                        self.assertEqual(turns_made(line, place, end), pair(way))

    def test_line_through(self):
        for near in [((0, 1), (0, 1)), ((1, 1), (1, 2)), ((-7, 4), (2, 3)), ((1, 1), (0, 1))]:
            for far in [((0, 1), (0, 1)), ((1, 1), (1, 2)), ((5, 2), (2, 3)), ((10 ** 6, 1), (999, 1000))]:
                for turns in (-2, -1, 0, 1, 3, 10 ** 6):
                    self.check_line_through(near, far, turns)

    def check_line_through(self, near, far, turns):
        if near == far and turns == 0:
            self.assertRaises(Unfit, line_through, near, far, turns)
            return
        line = line_through(near, far, turns)
        self.assertTrue(is_line(line) and goes_through(line, near) and goes_through(line, far))
        if near[0] == far[0]:
            self.assertEqual(line, ("ring", near[0]))
        elif near[1] == far[1] and turns == 0:
            self.assertEqual(line, ("flute", near[1]))
        else:
            self.assertEqual(told(turns_made(line, near[0], far[0])), told(far[1]) - told(near[1]) + turns)

    def test_one_point_with_turns_is_a_ring(self):
        self.assertEqual(line_through(((1, 2), (1, 3)), ((1, 2), (1, 3)), -1), ("ring", (1, 2)))


if __name__ == "__main__":
    unittest.main()
