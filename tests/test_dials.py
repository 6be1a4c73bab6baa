"""[8]: dials, count by count."""

import unittest
from fractions import Fraction

from screwshop.dials import (closings_apart, count_of_line, dial_for_all, dials_that_do, first_at_mark, how_many_lines,
                             is_unlike_counts, line_at_count, lines_at_mark, marks_together, safe_marks, unlike_counts,
                             wait_for_marks)
from screwshop.errors import NoMark, NoPaper, Unfit
from screwshop.lines import is_line
from screwshop.passes import cut_groove, dial_shows, next_closing
from tests.support import STRANGE, spoiled
from tests.test_lines import pair, told
from tests.test_passes import BENT, CARRIAGE, PITCHES, TRAINS, count_by_hand, ratio_by_hand

QUARTER, WHEELS = (1, 4), (((30, 20),), False)
DIALS = [(16, 4), (12, 4), (16, 8), (16, 3), (4, 4), (1, 1), (1, 3), (7, 24), (48, 24), (6, 9)]
LATHES = [(pitch, train, dial) for pitch in PITCHES[:2] for train in TRAINS + [(((40, 10), (3, 2)), True)]
          for dial in DIALS]
SHOP, FINE = (QUARTER, WHEELS, (16, 4)), (QUARTER, WHEELS, (12, 4))
FAR = 10 ** 30


def line_by_hand(lathe, count):
    """The LINE of a pass from PLACE 0 whose nut closes at this count."""
    turned = Fraction(count) / ratio_by_hand(lathe)
    return cut_groove(lathe, (pair(turned), (0, 1), (1, 1), 1))[0]


def met(lathe, count):
    """The mark that is met at this count, None if none is."""
    (teeth, marks), shown = lathe[2], Fraction(count, lathe[2][0]) % 1
    return int(shown * marks) if (shown * marks).denominator == 1 else None


def counts_at(lathe, mark, turns=40):
    return [count for count in range(lathe[2][0] * turns) if met(lathe, count) == mark]


class Lines(unittest.TestCase):
    def test_closings_apart(self):
        for lathe in LATHES:
            for place in CARRIAGE:
                first = told(next_closing(lathe, (0, 1), place))
                later = told(next_closing(lathe, pair(first + Fraction(1, 10 ** 9)), place))
                self.assertEqual(closings_apart(lathe), pair(later - first))

    def test_how_many_lines(self):
        for lathe in LATHES:
            self.assertEqual(how_many_lines(lathe), len({line_by_hand(lathe, count) for count in range(60)}))

    def test_line_at_count(self):
        for lathe in LATHES:
            for count in list(range(-15, 15)) + [FAR, -FAR, FAR + 1]:
                line = line_at_count(lathe, count)
                self.assertTrue(is_line(line))
                self.assertEqual(line, line_by_hand(lathe, count))

    def test_count_of_line(self):
        for lathe in LATHES:
            many = abs(ratio_by_hand(lathe).numerator)
            for count in range(-5, many + 5):
                self.assertEqual(count_of_line(lathe, line_by_hand(lathe, count)), count % many)
            word, lead, phase = line_by_hand(lathe, 1)
            others = [("ring", lead), ("flute", (0, 1)), (word, pair(2 * told(lead)), phase),
                      (word, pair(-told(lead)), phase), (word, lead, pair(abs(told(lead)) / 997))]
            for line in others:
                self.assertIsNone(count_of_line(lathe, line))


class Marks(unittest.TestCase):
    def test_first_at_mark(self):
        never = 0
        for lathe in LATHES:
            for mark in range(lathe[2][1]):
                counts = counts_at(lathe, mark, 1)
                self.assertEqual(first_at_mark(lathe, mark), counts[0] if counts else None)
                never += not counts
        self.assertGreater(never, 20)

    def test_as_the_dial_shows(self):
        for lathe in LATHES:
            for count in range(-5, 20):
                turned = pair(Fraction(count) / ratio_by_hand(lathe))
                mark = dial_shows(lathe, turned, (0, 1))[1]
                if mark is not None:
                    self.assertEqual((count - first_at_mark(lathe, mark)) % lathe[2][0], 0)

    def test_lines_at_mark(self):
        for lathe in LATHES:
            for mark in range(lathe[2][1]):
                lines = tuple(sorted({line_by_hand(lathe, count) for count in counts_at(lathe, mark)}))
                self.assertEqual(lines_at_mark(lathe, mark), lines)

    def test_safe_marks(self):
        some = set()
        for lathe in LATHES:
            lines = {mark: lines_at_mark(lathe, mark) for mark in range(lathe[2][1])}
            safe = tuple(mark for mark in lines if len(lines[mark]) == 1)
            self.assertEqual(safe_marks(lathe), safe)
            some.add(bool(safe))
            for mark in lines:
                together = tuple(own for own in safe if lines[own] == lines[mark]) if mark in safe else ()
                self.assertEqual(marks_together(lathe, mark), together)
        self.assertEqual(some, {True, False})

    def test_unlike_counts(self):
        found = 0
        for lathe in LATHES:
            for mark in range(lathe[2][1]):
                counts = counts_at(lathe, mark, 12)
                pairs = [(one, other) for one in counts[:3] for other in counts
                         if one < other and line_by_hand(lathe, one) != line_by_hand(lathe, other)]
                self.assertEqual(unlike_counts(lathe, mark), min(pairs) if pairs else None)
                found += bool(pairs)
                for thing in pairs[:5]:
                    self.assertIs(is_unlike_counts(lathe, mark, thing), True)
        self.assertGreater(found, 50)

    def test_is_unlike_counts(self):
        for one in range(-40, 40):
            for other in range(-40, 40):
                so = one % 16 == other % 16 == 4 and (one - other) % 3 != 0
                self.assertIs(is_unlike_counts(SHOP, 1, (one, other)), so)
        for thing in [(-16, 0), (0, -16), (16 * FAR, 16 * FAR + 32), (32, 0)]:
            self.assertIs(is_unlike_counts(SHOP, 0, thing), True)
        for thing in STRANGE + [[0, 16], (0, 48), (0, 16, 32), (0,), (0, "16"), (0, (16, 1)), (0, None), (0, 8)]:
            self.assertIs(is_unlike_counts(SHOP, 0, thing), False, thing)
        for thing in spoiled((0, 16), doubled=False):
            self.assertIs(is_unlike_counts(SHOP, 0, thing), False, thing)
        one_tooth = (QUARTER, WHEELS, (1, 1))
        for thing in [(True, False), (False, 1), (0, True)]:
            self.assertIs(is_unlike_counts(one_tooth, 0, thing), False, thing)
        self.assertIs(is_unlike_counts(one_tooth, 0, (0, 1)), True)
        self.assertIs(is_unlike_counts((QUARTER, WHEELS, (16, 3)), 1, (0, 16)), False)

    def test_no_mark(self):
        for mark in (-1, 4, 10 ** 9):
            for call in [lambda: first_at_mark(SHOP, mark), lambda: lines_at_mark(SHOP, mark),
                         lambda: marks_together(SHOP, mark), lambda: unlike_counts(SHOP, mark),
                         lambda: is_unlike_counts(SHOP, mark, None), lambda: is_unlike_counts(SHOP, mark, (0, 16)),
                         lambda: wait_for_marks(SHOP, (0, 1), (0, 1), (0, 3, mark, -9) if mark > 0 else (mark, 0, 99))]:
                with self.assertRaises(NoMark) as caught:
                    call()
                self.assertEqual(caught.exception.number, mark)


class Teeth(unittest.TestCase):
    def test_dials_that_do(self):
        for lathe in LATHES:
            for most in (1, 2, 11, 60):
                does = [teeth for teeth in range(1, most + 1)
                        if 0 in safe_marks((lathe[0], lathe[1], (teeth, lathe[2][1])))]
                self.assertEqual(dials_that_do(lathe, most), does)

    def test_dial_for_all(self):
        for lathes in [LATHES[:1], LATHES, LATHES[20:40], (SHOP, FINE), [FINE]]:
            teeth = dial_for_all(tuple(lathes))
            does = [own for own in range(1, teeth + 1) if all(own in dials_that_do(lathe, teeth) for lathe in lathes)]
            self.assertEqual(does, [teeth])


class Waiting(unittest.TestCase):
    def test_wait_for_marks(self):
        waited = 0
        for lathe in LATHES:
            for turned in [(0, 1), (1, 3), (-7, 4), (10 ** 6, 7)]:
                for place in CARRIAGE[:5]:
                    for marks in [(0,), tuple(range(lathe[2][1])), tuple(range(1, lathe[2][1], 2))]:
                        waited += self.check_wait(lathe, turned, place, marks)
        self.assertGreater(waited, 1000)

    def check_wait(self, lathe, turned, place, marks):
        if not any(counts_at(lathe, mark, 1) for mark in marks):
            self.assertRaises(NoPaper, wait_for_marks, lathe, turned, place, marks)
            return 0
        wait = wait_for_marks(lathe, turned, place, marks)
        closing = told(next_closing(lathe, turned, place))
        while met(lathe, count_by_hand(lathe, pair(closing), place)) not in marks:
            closing += told(closings_apart(lathe))
        self.assertEqual(told(wait), closing - told(turned))
        return 1

    def test_marks_that_are_never_met(self):
        never = (QUARTER, WHEELS, (16, 3))
        self.assertRaises(NoPaper, wait_for_marks, never, (0, 1), (0, 1), (1, 2))
        self.assertRaises(NoPaper, wait_for_marks, never, (0, 1), (0, 1), ())
        self.assertRaises(NoMark, wait_for_marks, never, (0, 1), (0, 1), (1, 3))
        self.assertEqual(wait_for_marks(never, (0, 1), (0, 1), (0, 1, 2)), (0, 1))


class Worn(unittest.TestCase):
    def test_worn_is_refused_first(self):
        for call in [lambda: closings_apart(BENT), lambda: how_many_lines(BENT), lambda: line_at_count(BENT, 1),
                     lambda: count_of_line(BENT, ("ring", (0, 1))), lambda: first_at_mark(BENT, 99),
                     lambda: lines_at_mark(BENT, -1), lambda: safe_marks(BENT), lambda: marks_together(BENT, 99),
                     lambda: unlike_counts(BENT, 99), lambda: is_unlike_counts(BENT, 99, (0, 1)),
                     lambda: dials_that_do(BENT, 9), lambda: dial_for_all((SHOP, BENT)),
                     lambda: wait_for_marks(BENT, (0, 1), (0, 1), (99,)), lambda: wait_for_marks(BENT, (0, 1), (0, 1), ())]:
            self.assertRaises(Unfit, call)


if __name__ == "__main__":
    unittest.main()
