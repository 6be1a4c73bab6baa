"""[21]: sheets, POINT by POINT; all LOTS of a few LINES tried one by one."""

import random
import unittest
from fractions import Fraction
from itertools import combinations, product

from screwshop.alikebars import bar_mirrored
from screwshop.bars import is_bar, is_plain, plain_bar
from screwshop.errors import NoPaper, TooMany
from screwshop.lines import goes_through, line_mirrored, line_moved
from screwshop.sheets import (bar_from_points, denial, is_denial, is_lines, least_lines, lines_through, next_point, points_of,
                              sheet_of, sure_lines)
from tests.support import STRANGE, deep, spoiled
from tests.test_lines import pair, told

O, HALF, ONE, TWO, THREE = (0, 1), (1, 2), (1, 1), (2, 1), (3, 1)
KINDS = ["ring", "flute", ONE, (-1, 1), HALF, (3, 2)]


def lies_on(line, point):
    place, angle = map(told, point)
    if line[0] == "ring":
        return told(line[1]) == place
    if line[0] == "flute":
        return told(line[1]) == angle
    return ((place - told(line[1]) * angle - told(line[2])) / told(line[1])).denominator == 1


def line_by_hand(kind, point):
    place, angle = map(told, point)
    if isinstance(kind, str):
        return (kind, pair(place if kind == "ring" else angle))
    lead = told(kind)
    return ("lead", kind, pair((place - lead * angle) % abs(lead)))


def net_by_hand(net):
    length, apart, parts = net
    found, number = [], 0
    while number * told(apart) <= told(length):
        found += [(pair(number * told(apart)), pair(Fraction(part, parts))) for part in range(parts)]
        number += 1
    return found


def depth_by_hand(bar, point):
    return max([0] + [depth for line, start, end, depth in bar[1]
                      if lies_on(line, point) and told(start) <= told(point[0]) <= told(end)])


def rows_by_hand(net, points, kind):
    """The pairs (line, row) of a KIND that leave a GROOVE."""
    along, found = net_by_hand(net), []
    for line in {line_by_hand(kind, point) for point in points}:
        on = sorted([point for point in along if lies_on(line, point)], key=lambda point: tuple(map(told, point)))
        if kind == "ring":
            found += [(line, on)] if set(on) <= set(points) else []
            continue
        run = []
        for point in on + [None]:
            if point in points:
                run.append(point)
            else:
                found += [(line, run)] if len(run) > 1 else []
                run = []
    return found


class Nets(unittest.TestCase):
    def test_points(self):
        for net in [(ONE, (1, 4), 4), (ONE, (1, 3), 1), ((7, 3), HALF, 5), (HALF, ONE, 3), (HALF, HALF, 1), (ONE, (1, 19), 20), ((2, 1), (3, 1), 400)]:
            points = points_of(net)
            self.assertEqual(points, tuple(sorted(net_by_hand(net))))
            self.assertLessEqual(len(points), 400)

    def test_more_than_400_points(self):
        self.assertEqual(len(points_of((ONE, (1, 399), 1))), 400)
        for net in [(ONE, (1, 400), 1), (ONE, TWO, 401), (ONE, ONE, 201), ((10 ** 6, 1), (1, 1000), 10 ** 6), (ONE, (1, 20), 20)]:
            self.assertRaises(TooMany, points_of, net)
            self.assertRaises(TooMany, sheet_of, (net[0], ()), net[1], net[2])
            self.assertRaises(TooMany, bar_from_points, (net, ((O, O),)), ("ring",))
            self.assertRaises(TooMany, bar_from_points, (net, ()), ("ring",))

    def test_sheets(self):
        chance, seen = random.Random(21), 0
        for bar, apart, parts in some_bars(chance):
            sheet = sheet_of(bar, apart, parts)
            net = (bar[0], apart, parts)
            points = tuple(sorted(point for point in net_by_hand(net) if depth_by_hand(bar, point)))
            self.assertEqual(sheet, (net, points))
            self.assertEqual(sheet_of(plain_bar(bar), apart, parts), sheet)
            seen += bool(points)
        self.assertGreater(seen, 20)

    def test_mirrored_bars_have_mirrored_sheets(self):
        for bar, apart, parts in some_bars(random.Random(5)):
            (net, points) = sheet_of(bar, apart, parts)
            mirrored = tuple(sorted((place, pair(-told(angle) % 1)) for place, angle in points))
            self.assertEqual(sheet_of(bar_mirrored(bar), apart, parts), (net, mirrored))


def some_bars(chance):
    """Triples of a BAR, apart, parts."""
    found = []
    for _ in range(40):
        length, apart, parts = chance.choice([ONE, TWO, (5, 2)]), chance.choice([(1, 4), (1, 3), HALF]), chance.choice([1, 2, 4, 6])
        grooves = set()
        for _ in range(chance.randrange(5)):
            point = (pair(Fraction(chance.randrange(5), 4)), pair(Fraction(chance.randrange(4), 4)))
            line = line_by_hand(chance.choice(KINDS), point)
            ends = sorted(chance.sample([Fraction(own, 4) for own in range(int(4 * told(length)) + 1)], 2))
            if line[0] != "ring":
                grooves.add((line, pair(ends[0]), pair(ends[1]), chance.randrange(1, 4)))
            elif told(line[1]) <= told(length):
                grooves.add((line, line[1], line[1], 2))
        found.append(((length, tuple(sorted(grooves))), apart, parts))
    return found


class Drawn(unittest.TestCase):
    def test_bars_from_points(self):
        chance, some = random.Random(8), {True: 0, False: 0}
        sheets = [sheet_of(bar, apart, parts) for bar, apart, parts in some_bars(chance)]
        for net in [(ONE, (1, 4), 4), (TWO, HALF, 2), ((5, 3), (1, 3), 6), (HALF, ONE, 3)]:
            points = net_by_hand(net)
            sheets += [(net, tuple(sorted(chance.sample(points, many)))) for many in range(0, len(points) + 1, 3)]
        for number, sheet in enumerate(sheets):
            for many in (1, 2, 4, 6):
                kinds = tuple(random.Random(number).sample(KINDS, many))
                some[self.check(sheet, kinds)] += 1
        self.assertTrue(min(some.values()) > 60, some)

    def check(self, sheet, kinds):
        net, points = sheet
        rows = [row for kind in kinds for row in rows_by_hand(net, points, kind)]
        if {point for _, row in rows for point in row} != set(points):
            self.assertRaises(NoPaper, bar_from_points, sheet, kinds)
            return False
        bar = bar_from_points(sheet, kinds)
        self.assertEqual(bar, (net[0], tuple(sorted((line, row[0][0], row[-1][0], 1) for line, row in rows))))
        self.assertTrue(is_bar(bar) and is_plain(bar))
        self.assertEqual(sheet_of(bar, net[1], net[2]), sheet)
        return True

    def test_rows_that_go_round(self):
        net = (TWO, (1, 4), 4)
        line = ("lead", ONE, HALF)
        points = tuple(sorted(point for point in net_by_hand(net) if lies_on(line, point) and HALF != point[0]))
        self.assertEqual(bar_from_points((net, points), (ONE,)), (TWO, ((line, O, (1, 4), 1), (line, (3, 4), TWO, 1))))

    def test_several_rows_on_one_line(self):
        net = ((3, 1), HALF, 2)
        points = tuple(sorted((pair(Fraction(own, 2)), HALF) for own in (0, 1, 3, 4, 5)))
        flute = ("flute", HALF)
        self.assertEqual(bar_from_points((net, points), ("flute",)), ((3, 1), ((flute, O, HALF, 1), (flute, (3, 2), (5, 2), 1))))
        self.assertRaises(NoPaper, bar_from_points, (net, tuple(sorted(points + ((THREE, O),)))), ("flute",))

    def test_rings(self):
        net = (TWO, ONE, 3)
        full = tuple(sorted((ONE, pair(Fraction(own, 3))) for own in range(3)))
        self.assertEqual(bar_from_points((net, full), ("ring",)), (TWO, ((("ring", ONE), ONE, ONE, 1),)))
        self.assertRaises(NoPaper, bar_from_points, (net, full[1:]), ("ring",))
        self.assertRaises(NoPaper, bar_from_points, (net, full), ("flute", ONE))
        # of one part alone a ring has one POINT
        self.assertEqual(bar_from_points(((TWO, ONE, 1), ((ONE, O),)), ("ring",)), (TWO, ((("ring", ONE), ONE, ONE, 1),)))
        self.assertRaises(NoPaper, bar_from_points, ((TWO, ONE, 1), ((ONE, O),)), ("flute",))

    def test_one_place_alone(self):
        net = (HALF, ONE, 2)
        self.assertEqual(bar_from_points((net, ((O, O), (O, HALF))), ("flute", "ring")), (HALF, ((("ring", O), O, O, 1),)))
        self.assertRaises(NoPaper, bar_from_points, (net, ((O, O), (O, HALF))), ("flute", ONE))
        self.assertEqual(bar_from_points((net, ()), ("flute",)), (HALF, ()))


def some_views(many):
    """VIEWS of a few POINTS on a grid, with kinds."""
    chance = random.Random(12)
    grid = [(pair(Fraction(place, 4)), pair(Fraction(angle, 4))) for place in range(5) for angle in range(4)]
    found = [(((), ()), ("ring",)), (((), ((O, O),)), ("flute", ONE))]
    for _ in range(many):
        seen = chance.sample(grid, chance.randrange(1, 12))
        cut = chance.randrange(0, min(7, len(seen)) + 1)
        found.append(((tuple(sorted(seen[:cut])), tuple(sorted(seen[cut:]))), tuple(chance.sample(KINDS, chance.randrange(1, 5)))))
    return found


VIEWS = some_views(150)


def clean_by_hand(view, kinds, point):
    lines = [line_by_hand(kind, point) for kind in kinds]
    return [line for line in lines if not any(lies_on(line, own) for own in view[1])]


def fewest_lots_by_hand(view, kinds):
    """The list of the LOTS with the fewest LINES, in order, all sets of clean LINES tried."""
    lines = sorted({line for point in view[0] for line in clean_by_hand(view, kinds, point)})
    for many in range(len(view[0]) + 1):
        lots = [lot for lot in combinations(lines, many) if all(any(lies_on(line, point) for line in lot) for point in view[0])]
        if lots:
            return lots
    return []


class Views(unittest.TestCase):
    def test_lines_through(self):
        for view, kinds in VIEWS:
            lines = {line for point in view[0] for line in clean_by_hand(view, kinds, point)}
            self.assertEqual(lines_through(view, kinds), tuple(sorted(lines)))

    def test_lots(self):
        some = {}
        for view, kinds in VIEWS:
            lots = fewest_lots_by_hand(view, kinds)
            some[len(lots)] = some.get(len(lots), 0) + 1
            if not lots:
                for call in (sure_lines, least_lines):
                    self.assertRaises(NoPaper, call, view, kinds)
                self.assertRaises(NoPaper, next_point, view, kinds, ((O, O),))
                self.assertIs(is_lines(view, kinds, lines_through(view, kinds)), False)
                continue
            self.assertEqual(least_lines(view, kinds), lots[0])
            self.assertRaises(NoPaper, denial, view, kinds)
            self.check_sure(view, kinds)
            self.check_next(view, kinds, lots)
            for lot in lots[:5] + [lines_through(view, kinds)]:
                self.assertIs(is_lines(view, kinds, lot), True)
                self.check_beside(view, kinds, lot)
        self.assertTrue(len(some) > 4 and some[0] > 20, some)

    def check_sure(self, view, kinds):
        """A LINE is in all LOTS exactly if all the other clean ones do not do without it."""
        lines = lines_through(view, kinds)
        sure = [line for line in lines
                if not all(any(lies_on(own, point) for own in lines if own != line) for point in view[0])]
        self.assertEqual(sure_lines(view, kinds), tuple(sure))
        alone = {own[0] for own in [clean_by_hand(view, kinds, point) for point in view[0]] if len(own) == 1}
        self.assertEqual(set(sure), alone)

    def check_next(self, view, kinds, lots):
        grid = [(pair(Fraction(place, 4)), pair(Fraction(angle, 4))) for place in range(5) for angle in range(4)]
        for number in range(4):
            points = tuple(random.Random(number).sample(grid, 1 + 3 * number))
            rows = []
            for at, point in enumerate(points):
                many = sum(any(lies_on(line, point) for line in lot) for lot in lots)
                rows.append((max(many, len(lots) - many), at))
            self.assertEqual(next_point(view, kinds, points), min(rows))

    def check_beside(self, view, kinds, lot):
        self.assertIs(is_lines(view, kinds, lot[::-1]), len(lot) < 2)
        for at in range(len(lot)):
            less = lot[:at] + lot[at + 1:]
            self.assertIs(is_lines(view, kinds, less), all(any(lies_on(line, point) for line in less) for point in view[0]))
            self.assertIs(is_lines(view, kinds, lot + lot[at:at + 1]), False)
        for point in [(HALF, HALF), ((1, 3), (1, 7)), (O, (1, 4)), ((3, 4), (3, 4))]:
            for kind in KINDS:
                line = line_by_hand(kind, point)
                clean = not any(lies_on(line, own) for own in view[1])
                if line not in lot:
                    self.assertIs(is_lines(view, kinds, tuple(sorted(lot + (line,)))), kind in kinds and clean)

    def test_denials(self):
        some = {True: 0, False: 0}
        for view, kinds in VIEWS:
            found = [(point, others) for point in view[0]
                     for others in product(*[[own for own in view[1] if lies_on(line_by_hand(kind, point), own)] for kind in kinds])]
            some[bool(found)] += 1
            self.assertIs(bool(found), not fewest_lots_by_hand(view, kinds))
            if not found:
                self.assertRaises(NoPaper, denial, view, kinds)
            else:
                self.assertEqual(denial(view, kinds), min(found))
                for thing in found[:20]:
                    self.assertIs(is_denial(view, kinds, thing), True)
                    self.check_denials_beside(view, kinds, thing, found)
        self.assertTrue(min(some.values()) > 20, some)

    def check_denials_beside(self, view, kinds, thing, found):
        point, others = thing
        for own in view[0] + view[1]:
            for other in [(own, others)] + [(point, others[:at] + (own,) + others[at + 1:]) for at in range(len(others))]:
                self.assertIs(is_denial(view, kinds, other), other in found)
        self.assertIs(is_denial(view, kinds, (point, others + others[:1])), False)
        self.assertIs(is_denial(view, kinds, (point, others[1:])), False)

    def test_nothing_deep_and_nothing_bare(self):
        empty = ((), ((O, O),))
        self.assertEqual((least_lines(empty, ("ring",)), sure_lines(empty, ("ring",)), lines_through(empty, ("ring",))), ((), (), ()))
        self.assertIs(is_lines(empty, ("ring",), ()), True)
        self.assertIs(is_lines(empty, ("ring",), (("ring", ONE),)), True)
        self.assertIs(is_lines(empty, ("ring",), (("ring", O),)), False)
        self.assertIs(is_lines(empty, ("flute",), (("ring", ONE),)), False)
        self.assertEqual(next_point(empty, ("ring",), ((O, O), (ONE, O))), (1, 0))
        self.assertRaises(NoPaper, denial, empty, ("ring",))
        open_view = (((O, O), (ONE, O)), ())
        self.assertEqual(least_lines(open_view, ("ring", "flute")), (("flute", O),))
        self.assertEqual(sure_lines(open_view, ("ring", "flute")), ())
        self.assertEqual(sure_lines(open_view, ("ring",)), (("ring", O), ("ring", ONE)))

    def test_lots_of_twelve_points(self):
        deep_points = tuple(sorted((pair(Fraction(own, 7)), pair(Fraction(own * own % 11, 11))) for own in range(12)))
        kinds = ("ring", "flute", ONE, (-1, 1), HALF, (3, 2))
        lot = least_lines((deep_points, ()), kinds)
        self.assertIs(is_lines((deep_points, ()), kinds, lot), True)
        bare = tuple(sorted((pair(Fraction(own, 5) + Fraction(1, 9)), pair(Fraction(own, 24))) for own in range(24)))
        self.assertTrue(is_lines((deep_points, bare), kinds, least_lines((deep_points, bare), kinds)))

    def test_more_lots_than_can_be_told_one_by_one(self):
        points = tuple(sorted((pair(Fraction(own ** 3 + 1, 7 + own)), pair(Fraction(own + 1, 23))) for own in range(12)))
        kinds = ("ring", "flute", ONE, (-1, 1), HALF, (3, 2))
        # no LINE goes through two of them: 6 ** 12 LOTS
        lines = lines_through((points, ()), kinds)
        self.assertEqual(len(lines), 72)
        self.assertEqual(least_lines((points, ()), kinds), tuple(("flute", (own, 23)) for own in range(1, 13)))
        self.assertRaises(TooMany, next_point, (points, ()), kinds, points)

    def test_400_lots_and_more(self):
        def view_of(many):
            return tuple(sorted((pair(Fraction(own)), pair(Fraction(own, many))) for own in range(many)))

        eight = (view_of(8), ())
        self.assertEqual(next_point(eight, ("ring", "flute"), ((O, O), (O, HALF), ((9, 1), (1, 9)))), (192, 1))
        self.assertEqual(next_point(eight, ("ring", "flute"), ((O, (1, 9)), (O, HALF), ((9, 1), (1, 9)), (ONE, (1, 9)))), (128, 0))
        self.assertRaises(TooMany, next_point, (view_of(9), ()), ("ring", "flute"), ((O, O),))
        # 4 times 4 times 5 times 5 LOTS are 400; with a flute more there are 500
        points = [((7, 1), (1, 7)), ((50, 1), (2, 7)), ((301, 1), (3, 7)), ((1009, 1), (4, 7))]
        kinds = ("ring", "flute", ONE, (1, 3), (2, 5))
        bare = tuple(sorted([((78, 11), (1, 7)), ((551, 11), (2, 7))]))
        view = (tuple(sorted(points)), bare)
        self.assertEqual(len(fewest_lots_by_hand(view, kinds)), 400)
        self.assertEqual(next_point(view, kinds, (((7, 1), (6, 7)),)), (300, 0))
        self.assertRaises(TooMany, next_point, (view[0], bare[:1]), kinds, (((7, 1), (6, 7)),))

    def test_lines_moved_and_mirrored(self):
        for view, kinds in VIEWS[:40]:
            motion = (HALF, (1, 4))
            moved = tuple(tuple(sorted((pair(told(place) + Fraction(1, 2)), pair((told(angle) + Fraction(1, 4)) % 1)) for place, angle in part)) for part in view)
            self.assertEqual(set(lines_through(moved, kinds)), {line_moved(line, motion) for line in lines_through(view, kinds)})
            mirrored = tuple(tuple(sorted((place, pair(-told(angle) % 1)) for place, angle in part)) for part in view)
            others = tuple(kind if isinstance(kind, str) else (-kind[0], kind[1]) for kind in kinds)
            self.assertEqual(set(lines_through(mirrored, others)), {line_mirrored(line) for line in lines_through(view, kinds)})


class Things(unittest.TestCase):
    def test_things_that_are_no_lots(self):
        view, kinds = (((O, O), ((1, 2), HALF)), ((O, HALF),)), ("flute", ONE, "ring")
        lot = (("flute", O), ("lead", ONE, O))
        self.assertIs(is_lines(view, kinds, lot), True)
        for thing in STRANGE + spoiled(lot) + [list(lot), lot[::-1], lot + lot, (list(lot[0]), lot[1]), (("flute", [0, 1]), lot[1]), lot[0],
                                               (("flute", (0, 2)), lot[1]), (("flute", (False, 1)), lot[1]), (("ring", HALF), lot[1]), deep(lot, 8, tuple)]:
            self.assertIs(is_lines(view, kinds, thing), False, thing)
        self.assertIs(is_lines(view, kinds, lot + (("ring", HALF),)), True)

    def test_things_that_are_no_denials(self):
        view, kinds = (((O, O),), ((O, HALF), (ONE, O), ((1, 2), HALF))), ("flute", ONE, "ring")
        thing = ((O, O), ((ONE, O), ((1, 2), HALF), (O, HALF)))
        self.assertIs(is_denial(view, kinds, thing), True)
        self.assertEqual(denial(view, kinds), ((O, O), ((ONE, O), (ONE, O), (O, HALF))))
        for other in STRANGE + spoiled(thing) + [list(thing), (list(thing[0]), thing[1]), (thing[0], list(thing[1])), thing[::-1], thing + thing,
                                                 ((O, (0, 2)), thing[1]), ((O, (False, 1)), thing[1]), ((O, HALF), thing[1]), deep(thing, 8, tuple)]:
            self.assertIs(is_denial(view, kinds, other), False, other)


class GoesThrough(unittest.TestCase):
    def test_one_line_of_each_kind_goes_through_a_point(self):
        for point in [(O, O), (HALF, (1, 3)), ((-7, 2), (3, 4))]:
            for kind in KINDS:
                line = line_by_hand(kind, point)
                self.assertTrue(goes_through(line, point))
                self.assertEqual(lines_through(((point,), ()), (kind,)), (line,))


if __name__ == "__main__":
    unittest.main()
