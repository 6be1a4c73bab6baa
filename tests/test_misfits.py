"""[18]: bent grooves, their POINTS looked at between all cuts; nuts that fit in, all shifts tried."""

import random
import unittest
from fractions import Fraction
from itertools import product

from screwshop.errors import NoPaper, Unfit
from screwshop.lines import goes_through
from screwshop.misfits import (angle_there, are_pieces, common_stretch, fits_by, is_parting_at, nut_shifts, nut_way,
                               parting_at, pieces_moved, places_alike, plain_pieces, shift_between, wrong_stretches)
from screwshop.passes import closes_at, run_out
from screwshop.worn import bends_of, worn_pieces
from tests.support import STRANGE, deep, spoiled
from tests.test_lines import pair, told
from tests.test_worn import LATHES, SCREWS, closings, pitch_by_hand

O, HALF, ONE, TWO, THREE = (0, 1), (1, 2), (1, 1), (2, 1), (3, 1)
SAW = ((("lead", (3, 2), O), THREE, (6, 1)), (("lead", (5, 2), ONE), (6, 1), (11, 1)))
TINY = Fraction(1, 10 ** 7)


def bent(start, angle, rows):
    """PIECES from PLACE start, at angle there, of these (lead, long), one behind the other."""
    found = []
    for lead, long in rows:
        phase = (start - lead * angle) % abs(lead)
        found.append((("lead", pair(lead), pair(phase)), pair(start), pair(start + long)))
        start, angle = start + long, angle + long / lead
    return tuple(found)


def ends_of(pieces):
    return told(pieces[0][1]), told(pieces[-1][2])


def cuts_of(pieces):
    return sorted({told(end) for piece in pieces for end in piece[1:]})


def angle_by_hand(pieces, place):
    """The ANGLE there by the POINTS of a lead; None off it."""
    for (_, lead, phase), start, end in pieces:
        if told(start) <= place <= told(end):
            return (place - told(phase)) / told(lead) % 1
    return None


def looked_at(cuts):
    """PLACES at which two bent grooves are alike only if they are alike between the first cut and the last."""
    cuts = sorted(cuts)
    return cuts + [low + (high - low) * part for low, high in zip(cuts, cuts[1:]) for part in (TINY, Fraction(1, 3), 1 - TINY)]


def fit_by_hand(pieces, nut, shift):
    """The ANGLE by which nut fits there, or None."""
    low, high = ends_of(nut)
    cuts = [own for own in cuts_of(nut) + [cut - shift for cut in cuts_of(pieces)] if low <= own <= high]
    turns = set()
    for place in looked_at(set(cuts)):
        there = angle_by_hand(pieces, place + shift)
        if there is None:
            return None
        turns.add((there - angle_by_hand(nut, place)) % 1)
    return turns.pop() if len(turns) == 1 else None


def shifts_by_hand(fits, cuts):
    """The stretches of shifts that fit, whose ends are among cuts."""
    cuts = sorted(cuts)
    cuts = [cuts[0] - 1] + cuts + [cuts[-1] + 1]
    found = []
    for at, cut in enumerate(cuts):
        if fits(cut):
            if found and found[-1][1] is None:
                found[-1][1] = cut
            elif not (found and found[-1][1] == cut):
                found.append([cut, cut])
            if at + 1 < len(cuts) and fits((cut + cuts[at + 1]) / 2):
                found[-1][1] = cuts[at + 1]
    return tuple((pair(low), pair(high)) for low, high in found)


def lead_by_hand(pieces, place):
    """The lead just behind place, by how far the ANGLE goes on."""
    part = TINY / 100
    gone = (angle_by_hand(pieces, place + part) - angle_by_hand(pieces, place)) % 1
    gone = gone - 1 if gone > Fraction(1, 2) else gone
    return part / gone


def some_pieces(many, chance, leads=(Fraction(1), Fraction(3, 2), Fraction(1, 2), Fraction(5, 2))):
    found = []
    for _ in range(many):
        sign = chance.choice([1, 1, 1, -1])
        rows = [(sign * chance.choice(leads), Fraction(chance.randrange(1, 5), chance.choice([1, 2])))
                for _ in range(chance.randrange(1, 6))]
        found.append(bent(Fraction(chance.randrange(-6, 7), 2), Fraction(chance.randrange(8), 8), rows))
    return found


CHANCE = random.Random(17)
PIECES = some_pieces(40, CHANCE) + some_pieces(20, CHANCE, (Fraction(1), Fraction(2))) + [SAW, SAW[:1], SAW[1:]]


class Shapes(unittest.TestCase):
    def test_what_pieces_are(self):
        for pieces in PIECES + [bent(Fraction(10 ** 40), Fraction(0), [(Fraction(1), Fraction(1, 10 ** 30))] * 20)]:
            self.assertIs(are_pieces(pieces), True, pieces)

    def test_what_no_pieces_are(self):
        (line, start, end), other = SAW
        for thing in STRANGE + [
                SAW[::-1], list(SAW), (list(SAW[0]),), ((line, list(start), end),), (), ((line, end, start),),
                ((line, start, start),), ((line, start),), ((line, start, end, 1),), (line, start, end), SAW + SAW,
                ((line, start, (5, 1)), other), (SAW[0], (("lead", (5, 2), HALF), (6, 1), (11, 1))),
                (SAW[0], (("lead", (-5, 2), (1, 2)), (6, 1), (11, 1))), ((("flute", O), O, ONE),), ((("ring", O), O, O),),
                ((("ring", O), O, ONE),), ((("lead", (3, 2), (3, 2)), start, end),), ((("lead", O, O), start, end),),
                ((("lead", (6, 4), O), start, end),), ((("lead", (3, 2)), start, end),), (((line,), start, end),),
                ((line, (6, 2), end),), ((line, (3, True), end),), deep(SAW, 9, tuple)]:
            self.assertIs(are_pieces(thing), False, thing)
        for pieces in (SAW, SAW[:1]):
            for thing in spoiled(pieces):
                self.assertIs(are_pieces(thing), False, thing)

    def test_right_beside_left_ones(self):
        right, left = bent(Fraction(0), Fraction(0), [(Fraction(2), Fraction(2))]), bent(Fraction(2), Fraction(0), [(Fraction(-2), Fraction(1))])
        self.assertTrue(are_pieces(right) and are_pieces(left))
        self.assertEqual(angle_by_hand(right, Fraction(2)), angle_by_hand(left, Fraction(2)))
        self.assertIs(are_pieces(right + left), False)


class Plain(unittest.TestCase):
    def test_plain(self):
        merged = 0
        for pieces in PIECES:
            plain = plain_pieces(pieces)
            self.assertTrue(are_pieces(plain))
            self.assertTrue(all(one[0][1] != other[0][1] for one, other in zip(plain, plain[1:])))
            self.assertEqual(ends_of(plain), ends_of(pieces))
            for place in looked_at(cuts_of(pieces)):
                self.assertEqual(angle_by_hand(plain, place), angle_by_hand(pieces, place))
            merged += plain != pieces
        self.assertGreater(merged, 10)

    def test_one_lead_in_several_triples(self):
        line = ("lead", (-3, 2), HALF)
        told_in_three = ((line, (-1, 1), O), (line, O, (1, 3)), (line, (1, 3), THREE))
        self.assertEqual(plain_pieces(told_in_three), ((line, (-1, 1), THREE),))

    def test_moved(self):
        for number, pieces in enumerate(PIECES):
            shift, turn = Fraction(number - 20, 3), Fraction(number % 7, 7)
            moved = pieces_moved(pieces, (pair(shift), pair(turn)))
            self.assertEqual(len(moved), len(pieces))
            self.assertTrue(are_pieces(moved))
            for (line, start, end), (_, low, high) in zip(moved, pieces):
                self.assertEqual((told(start), told(end)), (told(low) + shift, told(high) + shift))
                for place in (told(low), (told(low) + told(high)) / 2):
                    point = (pair(place + shift), pair((angle_by_hand(pieces, place) + turn) % 1))
                    self.assertTrue(goes_through(line, point))

    def test_angle_there(self):
        for pieces in PIECES:
            low, high = ends_of(pieces)
            for place in looked_at(cuts_of(pieces)) + [low - 1, low - TINY, high + TINY]:
                angle = angle_by_hand(pieces, place)
                self.assertEqual(angle_there(pieces, pair(place)), None if angle is None else pair(angle))


class Alike(unittest.TestCase):
    def test_shift_between_moved_ones(self):
        for number, pieces in enumerate(PIECES):
            motion = (pair(Fraction(5 - number, 4)), pair(Fraction(number % 5, 5)))
            moved = pieces_moved(pieces, motion)
            for one, other in product((pieces, plain_pieces(pieces)), (moved, plain_pieces(moved))):
                self.assertEqual(shift_between(one, other), motion)
                self.assertRaises(NoPaper, parting_at, one, other)
                for gone in (O, HALF, ONE, (99, 1)):
                    self.assertIs(is_parting_at(one, other, gone), False)

    def test_shift_or_parting(self):
        some = {True: 0, False: 0}
        for one, other in product(PIECES[::2] + PIECES[-3:], PIECES[::3] + PIECES[-3:]):
            (low, high), (begin, stop) = ends_of(one), ends_of(other)
            turn = fit_by_hand(other, one, begin - low) if high - low == stop - begin else None
            some[turn is None] += 1
            if turn is None:
                self.assertRaises(NoPaper, shift_between, one, other)
                parting = parting_at(one, other)
                self.assertIs(self.parts(one, other, told(parting)), True)
                self.assertIs(is_parting_at(one, other, parting), True)
            else:
                self.assertEqual(shift_between(one, other), (pair(begin - low), pair(turn)))
                self.assertRaises(NoPaper, parting_at, one, other)
            for gone in [Fraction(own, 4) for own in range(0, 60, 7)] + [high - low, stop - begin]:
                self.assertIs(is_parting_at(one, other, pair(gone)), self.parts(one, other, gone))
        self.assertTrue(min(some.values()) > 5, some)

    def parts(self, one, other, gone):
        """Whether it is a PARTING, from 0."""
        turns = []
        for pieces in (one, other):
            start = ends_of(pieces)[0]
            angle = angle_by_hand(pieces, start + gone)
            turns.append(None if angle is None else (angle - angle_by_hand(pieces, start)) % 1)
        return turns[0] != turns[1]

    def test_angles_that_come_together_behind_whole_turns(self):
        one = bent(Fraction(0), Fraction(0), [(Fraction(1), Fraction(4))])
        for lead in (Fraction(1, 2), Fraction(-1), Fraction(1, 4), Fraction(1, 1000), Fraction(1000)):
            other = bent(Fraction(-3), Fraction(1, 3), [(lead, Fraction(4))])
            parting = parting_at(one, other)
            self.assertTrue(self.parts(one, other, told(parting)))
            self.assertIs(is_parting_at(one, other, ONE), lead == 1000)
        # alike at first and at the end, whole turns apart between
        other = bent(Fraction(0), Fraction(0), [(Fraction(1), Fraction(1)), (Fraction(1, 2), Fraction(2)), (Fraction(1), Fraction(1))])
        self.assertEqual([is_parting_at(one, other, own) for own in (ONE, (3, 2), TWO, (9, 4), THREE, (4, 1), (9, 2))],
                         [False, True, False, True, False, False, False])
        self.assertTrue(self.parts(one, other, told(parting_at(one, other))))

    def test_where_one_alone_is_so_long(self):
        short = SAW[:1]
        for one, other in ((SAW, short), (short, SAW)):
            self.assertIs(is_parting_at(one, other, THREE), False)
            self.assertIs(is_parting_at(one, other, (301, 100)), True)
            self.assertIs(is_parting_at(one, other, (8, 1)), True)
            self.assertIs(is_parting_at(one, other, (801, 100)), False)
            self.assertIs(is_parting_at(one, other, parting_at(one, other)), True)

    def test_things_that_are_no_partings(self):
        part = bent(Fraction(1), Fraction(0), [(Fraction(1), Fraction(9))])
        self.assertIs(is_parting_at(SAW, part, ONE), True)
        for thing in STRANGE + spoiled((5, 3)) + [(-1, 1), (-1, 3), [1, 1], (True, 1), (1, True), 1, "1", (ONE,), (2, 2), O, None,
                                                  (10 ** 40, 1), (1, 1, 1), (-10 ** 40, 1)]:
            self.assertIs(is_parting_at(SAW, part, thing), False, thing)


class Fits(unittest.TestCase):
    def test_fits_by_and_all_shifts(self):
        some = {}
        for pieces, nut in list(product(PIECES[::3], PIECES[::4])) + self.cut_out():
            cuts = {one - other for one in cuts_of(pieces) for other in cuts_of(nut)}
            shifts = shifts_by_hand(lambda shift: fit_by_hand(pieces, nut, shift) is not None, cuts)
            self.assertEqual(nut_shifts(pieces, nut), shifts, (pieces, nut))
            for shift in sorted(cuts)[::3] + [Fraction(1, 7)] + [told(low) for low, _ in shifts]:
                turn = fit_by_hand(pieces, nut, shift)
                self.assertEqual(fits_by(pieces, nut, pair(shift)), None if turn is None else pair(turn))
            self.check_ways(pieces, nut, shifts)
            for low, high in shifts:
                kind = (low == high, len(plain_pieces(nut)) > 1)
                some[kind] = some.get(kind, 0) + 1
            some[len(shifts)] = some.get(len(shifts), 0) + 1
        self.assertTrue(len(some) > 6, some)
        self.assertTrue(all(some.get((point, bends)) for point, bends in [(True, True), (True, False), (False, False)]), some)
        self.assertNotIn((False, True), some)

    def cut_out(self):
        """Pairs of PIECES and a nut that is a part of them, or nearly."""
        found = []
        for number, pieces in enumerate(PIECES):
            cuts = looked_at(cuts_of(pieces))[:len(cuts_of(pieces)) + 4]
            low, high = sorted(random.Random(number).sample(sorted(set(cuts)), 2))
            part = tuple((line, pair(max(told(start), low)), pair(min(told(end), high))) for line, start, end in pieces
                         if told(start) < high and low < told(end))
            found.append((pieces, pieces_moved(part, (HALF, (1, 3)))))
        return found

    def check_ways(self, pieces, nut, shifts):
        for low, high in shifts:
            for shift in {low, high, pair((told(low) + told(high)) / 2)}:
                self.assertEqual(nut_way(pieces, nut, shift), (low, high))
            self.assertRaises(Unfit, nut_way, pieces, nut, pair(told(low) - TINY))
            self.assertRaises(Unfit, nut_way, pieces, nut, pair(told(high) + TINY))

    def test_one_lead_along_several_stretches(self):
        one, two = Fraction(1), Fraction(2)
        pieces = bent(Fraction(0), Fraction(0), [(one, Fraction(3)), (two, one), (one, one), (two, one), (one, Fraction(1, 2)), (two, one)])
        nut = bent(Fraction(5), Fraction(1, 4), [(one, Fraction(1, 2)), (one, Fraction(1, 2))])
        self.assertEqual(nut_shifts(pieces, nut), (((-5, 1), (-3, 1)), ((-1, 1), (-1, 1))))
        self.assertEqual(fits_by(pieces, nut, (-7, 2)), ((1, 4)))
        self.assertEqual(nut_shifts(pieces, bent(Fraction(0), Fraction(0), [(one, Fraction(4))])), ())
        self.assertEqual(nut_shifts(pieces, bent(Fraction(0), Fraction(0), [(-one, one)])), ())

    def test_bends_by_a_few_shifts(self):
        one, two = Fraction(1), Fraction(2)
        rows = [(one, one), (two, one)] * 3
        nut = bent(Fraction(0), Fraction(0), [(one, Fraction(1, 2)), (two, one), (one, Fraction(1, 3))])
        self.assertEqual(nut_shifts(bent(Fraction(0), Fraction(0), rows), nut), ((HALF, HALF), ((5, 2), (5, 2))))
        self.assertEqual(nut_shifts(bent(Fraction(0), Fraction(0), rows), bent(Fraction(9), Fraction(0), rows)), (((-9, 1), (-9, 1)),))


class Stretches(unittest.TestCase):
    def test_common_stretch(self):
        some = {}
        for one, other in list(product(PIECES[::3], PIECES[1::4])) + list(product(PIECES[40:60:2], PIECES[41:60:3])):
            common = self.common_by_hand(one, other)
            self.assertEqual(common_stretch(one, other), common, (one, other))
            kind = None
            if common:
                long, start, begin = map(told, common)
                kind = sum(told(own[1]) < start + long and start < told(own[2]) for own in plain_pieces(one))
            some[kind] = some.get(kind, 0) + 1
        self.assertTrue(len(some) > 3 and min(some.values()) > 1, some)

    def common_by_hand(self, one, other):
        found = []
        for shift in {far - near for near in cuts_of(one) for far in cuts_of(other)}:
            low, high = max(ends_of(one)[0], ends_of(other)[0] - shift), min(ends_of(one)[1], ends_of(other)[1] - shift)
            cuts = sorted(own for own in {*cuts_of(one), *(cut - shift for cut in cuts_of(other))} if low <= own <= high)
            runs = []
            for start, end in zip(cuts, cuts[1:]):
                if lead_by_hand(one, start) == lead_by_hand(other, start + shift):
                    if runs and runs[-1][1] == start:
                        runs[-1][1] = end
                    else:
                        runs.append([start, end])
            found += [(start - end, start, start + shift) for start, end in runs]
        if not found:
            return None
        long, start, begin = min(found)
        return (pair(-long), pair(start), pair(begin))

    def test_of_several_as_long(self):
        one, two = Fraction(1), Fraction(2)
        rod = bent(Fraction(0), Fraction(0), [(two, one), (one, one), (two, one), (one, one)])
        self.assertEqual(common_stretch(rod, bent(Fraction(5), Fraction(0), [(one, one), (Fraction(3), one), (one, Fraction(2))])),
                         (ONE, ONE, (5, 1)))
        self.assertEqual(common_stretch(bent(Fraction(5), Fraction(0), [(one, one), (Fraction(3), one), (one, Fraction(2))]), rod),
                         (ONE, (5, 1), ONE))
        self.assertEqual(common_stretch(rod, rod), ((4, 1), O, O))
        # alike two by two, but with something between on one of them
        three_leads = bent(Fraction(0), Fraction(0), [(Fraction(3), one), (two, one), (one, one)])
        for rows, stretch in [([(Fraction(3), one), (one, one)], (ONE, O, O)), ([(two, one), (Fraction(3), one), (one, one)], (ONE, O, ONE))]:
            self.assertEqual(common_stretch(three_leads, bent(Fraction(0), Fraction(0), rows)), stretch)
            self.assertEqual(common_stretch(bent(Fraction(0), Fraction(0), rows), three_leads)[0], ONE)
        self.assertIsNone(common_stretch(rod, bent(Fraction(0), Fraction(0), [(-one, one), (-two, one)])))
        long = bent(Fraction(0), Fraction(0), [(one, Fraction(3))])
        self.assertEqual(common_stretch(long, bent(Fraction(-7), Fraction(1, 2), [(one, Fraction(2))])), (TWO, O, (-7, 1)))
        # the least by value, not by comparison of the pairs
        self.assertEqual(common_stretch(bent(Fraction(1, 3), Fraction(0), [(one, Fraction(1, 6)), (two, one), (one, Fraction(1, 6))]),
                                        bent(Fraction(1, 2), Fraction(0), [(one, Fraction(1, 6)), (Fraction(3), one), (one, Fraction(1, 6))])),
                         ((1, 6), (1, 3), HALF))

    def test_the_least_start_is_not_the_first_found(self):
        one, two = Fraction(1), Fraction(2)
        rod = bent(Fraction(0), Fraction(0), [(one, Fraction(3)), (two, one)])
        other = bent(Fraction(0), Fraction(0), [(one, Fraction(2)), (two, one), (Fraction(3), one), (one, Fraction(5))])
        # as long: over the bend from 1 on, and along the one lead from 0 on
        self.assertEqual(self.common_by_hand(rod, other), (THREE, O, (4, 1)))
        self.assertEqual(common_stretch(rod, other), (THREE, O, (4, 1)))
        self.assertEqual(common_stretch(other, rod), (THREE, O, ONE))

    def test_wrong_stretches(self):
        for pieces in PIECES:
            leads = {told(own[0][1]) for own in pieces}
            for lead in leads | {Fraction(7), -min(leads)}:
                found = []
                for start, end in zip(cuts_of(pieces), cuts_of(pieces)[1:]):
                    if lead_by_hand(pieces, start) != lead:
                        if found and found[-1][1] == start:
                            found[-1][1] = end
                        else:
                            found.append([start, end])
                self.assertEqual(wrong_stretches(pieces, pair(lead)), tuple((pair(low), pair(high)) for low, high in found))

    def test_places_alike(self):
        some = {}
        for screw in SCREWS:
            bends = [told(own) for own in bends_of(screw)]
            for length, bed in [(Fraction(1), Fraction(9)), (Fraction(3, 2), Fraction(4)), (Fraction(5), Fraction(5)), (Fraction(1, 3), Fraction(7, 3))]:
                places = {Fraction(0), bed - length, *(bend - length / 2 for bend in bends), *bends, (bed - length) / 3}
                for place in [own for own in places if 0 <= own <= bed - length]:
                    alike = self.alike_by_hand(screw, length, bed, place)
                    self.assertEqual(places_alike(screw, pair(length), pair(bed), pair(place)), alike)
                    for low, high in alike:
                        some[low == high] = some.get(low == high, 0) + 1
                    some[len(alike) + 10] = some.get(len(alike) + 10, 0) + 1
        self.assertTrue(len(some) > 3, some)

    def alike_by_hand(self, screw, length, bed, place):
        bends = [told(own) for own in bends_of(screw)]
        ends = [Fraction(0), bed] + [own for own in bends if 0 < own < bed]
        cuts = {one - other for one in ends for other in [place, place + length] + ends} | {own - length for own in ends} | set(ends)
        cuts |= {place + one - other for one in ends for other in ends}
        cuts = {own for own in cuts if 0 <= own <= bed - length}

        def alike(there):
            if not 0 <= there <= bed - length:
                return False
            parts = {Fraction(0)} | {own - base for own in bends for base in (place, there) if 0 <= own - base < length}
            return all(pitch_by_hand(screw, place + part) == pitch_by_hand(screw, there + part) for part in parts)

        return shifts_by_hand(alike, cuts)

    def test_a_bed_that_the_length_just_fills(self):
        for screw in SCREWS:
            self.assertEqual(places_alike(screw, (7, 1), (7, 1), O), ((O, O),))

    def test_bars_that_begin_or_end_at_a_bend(self):
        screw = ((TWO, THREE), (ONE, (5, 1)))
        self.assertEqual(places_alike(screw, TWO, (20, 1), (4, 1)), ((O, (4, 1)),))
        self.assertEqual(places_alike(screw, TWO, (20, 1), (6, 1)), (((6, 1), (18, 1)),))
        self.assertEqual(places_alike(screw, TWO, (20, 1), (401, 100)), (((401, 100), (401, 100)),))
        self.assertEqual(places_alike(((ONE, ONE), (ONE, TWO), (ONE, ONE), (ONE, TWO)), ONE, (8, 1), HALF),
                         ((HALF, HALF), ((7, 2), (7, 2))))


class WithOthers(unittest.TestCase):
    def test_pieces_that_passes_of_worn_lathes_leave(self):
        many = 0
        for lathe in LATHES:
            for turned in (O, (2, 3)):
                for place in closings(lathe, turned, (-2, 1), (8, 1))[::4]:
                    for end in ((12, 1), (-5, 1)):
                        pieces = worn_pieces(lathe, turned, place, end)
                        self.assertTrue(are_pieces(pieces))
                        self.assertEqual(plain_pieces(pieces), pieces)
                        closes_at(lathe, turned, place)
                        for cut in looked_at(cuts_of(pieces)):
                            angle = told(run_out(lathe, turned, place, pair(cut))) % 1
                            self.assertEqual(angle_there(pieces, pair(cut)), pair(angle))
                        many += len(pieces) > 1
        self.assertGreater(many, 20)


if __name__ == "__main__":
    unittest.main()
