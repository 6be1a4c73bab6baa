"""[12]: tied nuts, turned amount by amount."""

import random
import unittest
from fractions import Fraction
from itertools import product

from screwshop.errors import NoPaper, TooMany, Unfit
from screwshop.tied import (both_fine, goes_by, half_closings, is_lock, is_tie, leads_fit, lock_of, plate_stands,
                            stopped_by, tied_far, turned_stand)
from tests.support import STRANGE, spoiled
from tests.test_lines import pair, told
from tests.test_nuts import all_on, some_stretch, tooth_on

O, HALF, ONE, TWO, THREE, FOUR = (0, 1), (1, 2), (1, 1), (2, 1), (3, 1), (4, 1)
LEADS = [ONE, (-1, 1), TWO, (-2, 1), HALF]
TIES = [("stiff",)] + [(word, ratio) for word in ("slide", "gear") for ratio in (ONE, (-1, 1), TWO, (-2, 1), HALF, (-1, 2))]
STEP, WITHIN = Fraction(1, 8), Fraction(37, 808)


def some_lathe(chance, lead):
    """A BAR of length 4 and a NUT of this lead."""
    phases = sorted({pair(Fraction(chance.randrange(3), 3) * abs(told(lead))) for _ in range(chance.randrange(1, 3))})
    grooves = {(("lead", lead, phase), O, FOUR, 3) for phase in phases if chance.randrange(3)}
    grooves |= {(("lead", lead, pair(Fraction(chance.randrange(3), 3) * abs(told(lead)))),) + some_stretch(chance)
                for _ in range(chance.randrange(1, 4))}
    return (FOUR, tuple(sorted(grooves))), (lead, tuple(phases), chance.randrange(1, 3))


def fine(bar, nut, at):
    return not 0 <= at[0] <= told(bar[0]) or all_on(bar, nut, *at)


def rates(nut, other, tie):
    """How much shift and turn are more for each turn: [12] row by row."""
    own, others = (told(nut[0]), Fraction(1)), told(other[0])
    if tie[0] == "stiff":
        return own, own
    ratio = told(tie[1])
    return own, ((own[0], ratio) if tie[0] == "slide" else (others * ratio, ratio))


def turned(case, amount):
    bar, nut, far, other, tie, stand = case
    return tuple((told(at[0]) + amount * rate[0], told(at[1]) + amount * rate[1])
                 for at, rate in zip(stand, rates(nut, other, tie)))


def holds(case, amount):
    bar, nut, far, other, _, _ = case
    one, two = turned(case, amount)
    return fine(bar, nut, one) and fine(far, other, two)


def far_by_hand(case, sign):
    """The greatest amount, as a size, to which it goes, None without end, and whether it holds there."""
    amount = Fraction(0)
    while True:
        if not holds(case, sign * amount):
            return amount, False
        if not holds(case, sign * (amount + WITHIN)):
            return amount, True
        amount += STEP
        if amount > 24:
            return None, True


def stops_by_hand(case, sign, far):
    if far is None:
        return ()
    found = []
    for which, at in enumerate(turned(case, sign * (far + WITHIN))):
        bar, nut = case[2 * which], case[2 * which + 1]
        if 0 <= at[0] <= told(bar[0]):
            found.extend((which, tooth) for tooth in range(len(nut[1])) if not tooth_on(bar, nut, tooth, *at))
    return tuple(found)


def some_cases(many, seed=1):
    """Tuples (bar, nut, far, other, tie, stand), stands that hold, some of them off the bar."""
    chance = random.Random(seed)
    found = []
    while len(found) < many:
        lead, other_lead = chance.choice(LEADS), chance.choice(LEADS)
        (bar, nut), (far, other) = some_lathe(chance, lead), some_lathe(chance, other_lead)
        tie = chance.choice(TIES)
        if chance.randrange(3):
            tie = chance.choice([("slide", pair(told(lead) / told(other_lead))), ("gear", chance.choice(TIES[1:7])[1])])
            if tie[0] == "slide" and tie not in TIES:
                continue
        if chance.randrange(4) == 0 and lead == other_lead:
            tie = ("stiff",)
        places = [some_fine(chance, bar, nut), some_fine(chance, far, other)]
        if None not in places:
            found.append((bar, nut, far, other, tie, tuple(places)))
    return found


def some_fine(chance, bar, nut):
    places = [Fraction(own, 2) for own in range(9)]
    ons = [(place, turn) for place in places for turn in (Fraction(own, 6) for own in range(-4, 9))
           if all_on(bar, nut, place, turn)]
    ons += [(Fraction(chance.choice([-3, -1, 9, 10]), 2), Fraction(chance.randrange(-9, 9), 6))] * (len(ons) // 8 + 1)
    place = chance.choice(ons)
    return (pair(place[0]), pair(place[1]))


CASES = some_cases(150)


class Shapes(unittest.TestCase):
    def test_what_a_tie_is(self):
        for tie in TIES + [("gear", (-10 ** 40, 7)), ("slide", (1, 10 ** 40))]:
            self.assertIs(is_tie(tie), True, tie)

    def test_what_no_tie_is(self):
        for thing in STRANGE + [("stiff", ONE), ("slide",), ("gear",), ("slide", O), ("gear", O), ("gear", (2, 4)),
                                ("gear", (1, -2)), ["stiff"], ["gear", ONE], ("gear", [1, 1]), ("gear", ONE, ONE),
                                "stiff", ("stiff", "stiff"), ("Stiff",), ("gear", 1), ("gear", (True, 1)),
                                ("slide", (1, True)), (("stiff",),), ("tumble", ONE), (ONE, "gear"), ("gear", None)]:
            self.assertIs(is_tie(thing), False, thing)
        for tie in [("stiff",), ("slide", (-1, 2)), ("gear", (3, 2))]:
            for thing in spoiled(tie):
                self.assertIs(is_tie(thing), False, thing)


class Stands(unittest.TestCase):
    def test_leads_fit(self):
        for lead, other, tie in product(LEADS, LEADS, TIES):
            own = told(lead)
            fits = {"stiff": own == told(other), "gear": True,
                    "slide": len(tie) > 1 and own == told(tie[-1]) * told(other)}[tie[0]]
            self.assertIs(leads_fit((lead, (O,), 1), (other, (O,), 2), tie), fits)

    def test_turned(self):
        for case in CASES[:60]:
            for amount in (Fraction(0), Fraction(1, 2), Fraction(-7, 3), Fraction(10 ** 6)):
                stand = turned_stand(case[1], case[3], case[4], case[5], pair(amount))
                self.assertEqual(stand, tuple((pair(shift), pair(turn)) for shift, turn in turned(case, amount)))

    def test_both_fine(self):
        some = {True: 0, False: 0}
        for case in CASES[:80]:
            bar, nut, far, other, _, _ = case
            for amount in [Fraction(own, 4) for own in range(-30, 31, 3)]:
                one, two = turned(case, amount)
                stand = tuple((pair(own[0]), pair(own[1])) for own in (one, two))
                self.assertIs(both_fine(bar, nut, far, other, stand), holds(case, amount))
                some[holds(case, amount)] += 1
        self.assertTrue(min(some.values()) > 200, some)

    def test_off_and_at_the_ends(self):
        bar, nut = (FOUR, ((("lead", ONE, O), O, TWO, 1),)), (ONE, (O,), 1)
        for shift, holding in [((-1, 1000), True), (O, True), (TWO, True), (THREE, False), (FOUR, False), ((4001, 1000), True)]:
            at = (shift, (7, 1))
            self.assertIs(both_fine(bar, nut, bar, nut, (at, (O, O))), holding, shift)
            self.assertIs(both_fine(bar, nut, bar, nut, ((O, O), at)), holding, shift)


class Going(unittest.TestCase):
    def test_how_far_and_what_stops(self):
        kinds = {}
        for case in CASES:
            for onward in (True, False):
                sign = 1 if onward else -1
                far, at_end = far_by_hand(case, sign)
                self.assertEqual(tied_far(*case, onward), None if far is None else pair(far), case)
                stops = stops_by_hand(case, sign, far)
                self.assertEqual(stopped_by(*case, onward), stops, case)
                self.check_goes(case, sign, far, at_end)
                key = (case[4][0], far is None, far == 0, at_end, leads_fit(case[1], case[3], case[4]), len(stops) > 1)
                kinds[key] = kinds.get(key, 0) + 1
        self.assertGreater(len(kinds), 20)
        # it comes onto a bar where it is not on: it goes by all less than that, but not by that
        self.assertTrue([key for key in kinds if not key[3]])

    def check_goes(self, case, sign, far, at_end):
        self.assertIs(goes_by(*case, O), True)
        for amount in (Fraction(1, 1000), Fraction(1, 8), Fraction(2), Fraction(1000)):
            self.assertIs(goes_by(*case, pair(sign * amount)), far is None or amount < far or (amount == far and at_end))
        if far:
            self.assertIs(goes_by(*case, pair(sign * far)), at_end)
            self.assertIs(goes_by(*case, pair(sign * far * Fraction(999, 1000))), True)
            self.assertIs(goes_by(*case, pair(sign * far * Fraction(1001, 1000))), False)

    def test_locks(self):
        locked = 0
        for case in CASES:
            ends = [far_by_hand(case, sign)[0] for sign in (1, -1)]
            if ends != [0, 0]:
                self.assertRaises(NoPaper, lock_of, *case)
                self.assertIs(is_lock(*case, ((0, 0), (1, 0))), False)
                continue
            locked += 1
            stops = [stops_by_hand(case, sign, 0) for sign in (1, -1)]
            lock = lock_of(*case)
            self.assertTrue(isinstance(lock, tuple) and lock[0] in stops[0] and lock[1] in stops[1])
            pairs = list(product((0, 1), (0, 1))) + [(-1, 0), (0, -1), (1, 2)]
            for one, two in product(pairs, pairs):
                self.assertIs(is_lock(*case, (one, two)), one in stops[0] and two in stops[1])
        self.assertGreater(locked, 10)

    def test_the_guarantee(self):
        for lead, other_lead, tie in product(LEADS[:4], LEADS[:4], TIES):
            bars = [(FOUR, ((("lead", own, O), O, FOUR, 1),)) for own in (lead, other_lead)]
            nuts = [(own, (O,), 1) for own in (lead, other_lead)]
            case = (bars[0], nuts[0], bars[1], nuts[1], tie, ((TWO, pair(2 / told(lead))), (ONE, pair(1 / told(other_lead)))))
            goes = goes_by(*case, (1, 100)) or goes_by(*case, (-1, 100))
            self.assertIs(goes, leads_fit(nuts[0], nuts[1], tie), case)
            if goes:
                self.assertRaises(NoPaper, lock_of, *case)
            else:
                self.assertIs(is_lock(*case, lock_of(*case)), True)

    def test_only_one_way_is_stopped(self):
        line, nut = ("lead", ONE, O), (ONE, (O,), 1)
        bar, whole = (FOUR, ((line, ONE, THREE, 1),)), (FOUR, ((line, O, FOUR, 1),))
        case = (bar, nut, whole, nut, ("stiff",), ((ONE, O), (ONE, O)))
        self.assertEqual((tied_far(*case, True), tied_far(*case, False)), (TWO, O))
        self.assertEqual((stopped_by(*case, True), stopped_by(*case, False)), (((0, 0),), ((0, 0),)))
        self.assertRaises(NoPaper, lock_of, *case)
        self.assertIs(is_lock(*case, ((0, 0), (0, 0))), False)
        self.assertEqual(tied_far(whole, nut, whole, nut, ("stiff",), ((ONE, O), (ONE, O)), True), None)
        self.assertEqual(stopped_by(whole, nut, whole, nut, ("stiff",), ((ONE, O), (ONE, O)), True), ())

    def test_coming_onto_the_bar(self):
        # a turn ahead of it or behind it, so that it comes on with the turn wanted, or with another one
        for lead, tie in product([ONE, TWO, (-2, 1), (2, 3)], [("stiff",), ("slide", ONE), ("gear", ONE)]):
            bar, nut = (FOUR, ((("lead", lead, O), O, THREE, 1),)), (lead, (O,), 1)
            away = ((FOUR, ()), nut, ((999, 1), pair(Fraction(1, 7))))
            for wrong in (Fraction(0), Fraction(1, 5)):
                for gone in (Fraction(1, 4), Fraction(3, 2), Fraction(7, 3)):
                    sign = 1 if told(lead) > 0 else -1
                    at = (pair(-gone * abs(told(lead))), pair(wrong - sign * gone))
                    case = (bar, nut, away[0], away[1], tie, (at, away[2]))
                    onward = sign > 0
                    far = gone if wrong else gone + 3 / abs(told(lead))
                    self.assertEqual(tied_far(*case, onward), pair(far))
                    self.assertEqual(stopped_by(*case, onward), ((0, 0),))
                    self.assertIs(goes_by(*case, pair(sign * far)), not wrong)
                    self.assertEqual(tied_far(*case, not onward), pair(995 / abs(told(lead))))

    def test_a_stand_that_does_not_hold(self):
        line, nut = ("lead", ONE, O), (ONE, (O,), 1)
        bar = (FOUR, ((line, O, FOUR, 1),))
        for stand in [((O, HALF), (O, O)), ((O, O), (O, HALF)), ((O, HALF), ((-1, 1), HALF))]:
            case = (bar, nut, bar, nut, ("stiff",), stand)
            self.assertRaises(Unfit, goes_by, *case, O)
            self.assertRaises(Unfit, tied_far, *case, True)
            self.assertRaises(Unfit, stopped_by, *case, False)
            self.assertRaises(Unfit, lock_of, *case)
            for thing in STRANGE + [((0, 0), (0, 0))]:
                self.assertRaises(Unfit, is_lock, *case, thing)
            self.assertIs(both_fine(bar, nut, bar, nut, stand), False)
            self.assertEqual(turned_stand(nut, nut, ("stiff",), stand, O), stand)

    def test_things_that_are_no_locks(self):
        right, left = ("lead", ONE, O), ("lead", (-1, 1), O)
        case = ((FOUR, ((right, O, FOUR, 1),)), (ONE, (O,), 1), (FOUR, ((left, O, FOUR, 1),)), ((-1, 1), (O,), 1),
                ("stiff",), ((ONE, O), (ONE, O)))
        lock = ((1, 0), (1, 0))
        self.assertIs(is_lock(*case, lock), True)
        for thing in STRANGE + spoiled(lock, False) + [
                ((True, 0), (1, 0)), ((1, False), (1, 0)), ((1, 0), (1, False)), [(1, 0), (1, 0)], ((1, 0), [1, 0]),
                ((1, 0), (0, 0)), ((0, 0), (1, 0)), ((1, 0), (1, 1)), ((1, 0),), ((1, 0), (1, 0), (1, 0)), (1, 0)]:
            if repr(thing) == repr(lock):
                continue
            self.assertIs(is_lock(*case, thing), False, thing)


class Closings(unittest.TestCase):
    def test_half_closings(self):
        some = 0
        for case in CASES[:120]:
            bar, nut = case[:2]
            for turn in (Fraction(0), Fraction(1, 4), Fraction(-7, 3), Fraction(50, 6)):
                shifts = [Fraction(own, 24) for own in range(97)]
                ons = [pair(own) for own in shifts if all_on(bar, nut, own, turn)]
                self.assertEqual(half_closings(bar, nut, pair(turn)), ons)
                some += len(ons)
        self.assertGreater(some, 200)

    def test_too_many_closings(self):
        line = ("lead", (1, 10), O)
        for length, many in [((39, 1), 391), ((399, 10), 400), ((4009, 100), None), ((40, 1), None), ((10 ** 6, 1), None)]:
            bar = (length, ((line, O, length, 1),))
            if many is None:
                self.assertRaises(TooMany, half_closings, bar, ((1, 10), (O,), 1), O)
            else:
                self.assertEqual(len(half_closings(bar, ((1, 10), (O,), 1), O)), many)
        two = tuple(sorted((("lead", (1, 10), phase), O, (20, 1), 1) for phase in (O, (1, 20))))
        self.assertRaises(TooMany, half_closings, ((20, 1), two), ((1, 10), (O,), 1), O)
        self.assertEqual(len(half_closings(((20, 1), two), ((1, 10), (O,), 2), O)), 0)

    def test_plate_stands(self):
        some = 0
        for case in CASES[:150]:
            bar, nut, far, other = case[:4]
            for apart in ((O, O), (HALF, (1, 3)), ((-3, 2), (-5, 6)), ((1, 6), (7, 2))):
                if nut[0] == other[0]:
                    self.assertRaises(Unfit, plate_stands, bar, nut, far, other, apart)
                    continue
                stands = plate_stands(bar, nut, far, other, apart)
                self.assertEqual(stands, self.stands_by_hand(bar, nut, far, other, apart))
                some += len(stands)
        self.assertGreater(some, 200)

    def stands_by_hand(self, bar, nut, far, other, apart):
        """All of them: turn by turn that is a phase of both, at each place where both leads come to it."""
        lead, beside, (along, around) = told(nut[0]), told(other[0]), map(told, apart)
        gap = 1 / abs(1 / lead - 1 / beside)
        found = set()
        for line, _, _, _ in bar[1]:
            for to, _, _, _ in far[1]:
                # turn - phase/lead is the angle of the first tooth: (shift - line phase) / lead
                begin = (told(nut[1][0]) - told(line[2])) / lead
                end = (told(other[1][0]) + along - told(to[2])) / beside - around
                first = (end - begin) / (1 / lead - 1 / beside) % gap
                for number in range(int(4 / gap) + 1):
                    shift = first + number * gap
                    turn = (begin + shift / lead) % 1
                    if all_on(bar, nut, shift, turn) and all_on(far, other, shift + along, turn + around):
                        found.add((shift, turn))
        return [(pair(shift), pair(turn)) for shift, turn in sorted(found)]

    def test_too_many_stands(self):
        lines = [("lead", (1, 10), O), ("lead", (-1, 10), O)]
        nuts = [((1, 10), (O,), 1), ((-1, 10), (O,), 1)]

        def stands(length):
            bars = [(length, ((own, O, length, 1),)) for own in lines]
            return plate_stands(bars[0], nuts[0], bars[1], nuts[1], (O, O))
        self.assertEqual(len(stands((399, 20))), 400)
        self.assertRaises(TooMany, stands, (20, 1))
        self.assertRaises(TooMany, stands, (10 ** 6, 1))
        bar = ((10 ** 6, 1), ((lines[0], O, (10 ** 6, 1), 1),))
        self.assertRaises(Unfit, plate_stands, bar, nuts[0], bar, nuts[0], (O, O))


if __name__ == "__main__":
    unittest.main()
