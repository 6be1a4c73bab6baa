"""[19]: screws in screws, by equations of Fractions solved in another way, and by amounts tried one by one."""

import random
import unittest
from fractions import Fraction
from itertools import product
from math import gcd

from screwshop.errors import NoPaper, Unfit
from screwshop.nested import (are_clicks, clicks_for, finest_move, free_move, freedom, gain_of, is_move, is_nest, is_stay,
                              move_with, plain_moves, reach_of, stay_of, turn_for)
from screwshop.worn import place_of
from tests.support import STRANGE, deep, spoiled
from tests.test_lines import pair, told

O, HALF, ONE, TWO, THREE = (0, 1), (1, 2), (1, 1), (2, 1), (3, 1)
VICE, LOOSE = (((3, 2), (7, 5)), ((2, "round"),)), (((3, 2), (7, 5)), ())
HOLDS = [(part, way) for part in (1, 2, 3, 4) for way in ("along", "round")]


def some_nests():
    chance, found = random.Random(19), [VICE, LOOSE]
    leads = [ONE, (-1, 1), TWO, (3, 2), (-3, 2), (7, 5)]
    for _ in range(260):
        many = chance.randrange(1, 5)
        fit = [own for own in HOLDS if own[0] <= many]
        held = chance.sample(fit, chance.randrange(0, min(5, len(fit) + 1)))
        found.append((tuple(chance.choice(leads[:chance.randrange(1, 7)]) for _ in range(many)), tuple(sorted(held))))
    return found


NESTS = some_nests()


def move_by_hand(leads, turns):
    """The list of the (shift, turn), each PART against the one ahead of it."""
    found, shift, ahead = [], Fraction(0), Fraction(0)
    for lead, turn in zip(leads, turns):
        shift += told(lead) * (turn - ahead)
        ahead = turn
        found.append((shift, turn))
    return found


def held_amounts(nest, turns):
    move = move_by_hand(nest[0], turns)
    return [move[part - 1][0 if way == "along" else 1] for part, way in nest[1]]


def paired(move):
    return tuple((pair(shift), pair(turn)) for shift, turn in move)


def rank(rows):
    """How many of these rows are needed, by determinants of what is left when one is taken away."""
    rows, found = [list(row) for row in rows], 0
    while rows and rows[0]:
        first = next((row for row in rows if row[-1]), None)
        if first is None:
            rows = [row[:-1] for row in rows]
            continue
        rows.remove(first)
        rows = [[own - part * row[-1] / first[-1] for own, part in zip(row[:-1], first)] for row in rows]
        found += 1
    return found


def unit(many, at):
    return [Fraction(own == at) for own in range(many)]


def rows_by_hand(nest, asked=None):
    """For each of held, or of what is asked, the amounts by a turn of each PART alone."""
    many, held = len(nest[0]), nest[1] if asked is None else asked
    columns = [held_amounts((nest[0], held), unit(many, at)) for at in range(many)]
    return [list(row) for row in zip(*columns)] if held else []


def freedom_by_hand(nest, more=()):
    """How many turns are free if these are held, too."""
    return len(nest[0]) - rank(rows_by_hand(nest) + rows_by_hand(nest, tuple(more)))


def does(nest, part, way):
    """Whether PART part goes, or turns, in some MOVE."""
    return freedom_by_hand(nest, [(part, way)]) < freedom_by_hand(nest)


class Shapes(unittest.TestCase):
    def test_what_a_nest_is(self):
        for nest in NESTS + [((ONE,), ()), ((ONE,), ((1, "along"), (1, "round"))), (((10 ** 40, 7),) * 30, ((30, "round"),))]:
            self.assertIs(is_nest(nest), True, nest)

    def test_what_no_nest_is(self):
        leads = VICE[0]
        for thing in STRANGE + [
                ((), ()), (leads,), (leads, (), ()), (leads, ((3, "round"),)), (leads, ((0, "round"),)), (leads, ((-1, "round"),)),
                (leads, ((1, "loud"),)), (leads, ((1, ""),)), (leads, ((True, "round"),)), (leads, ((1, "round"), (1, "along"))),
                (leads, ((2, "along"), (1, "along"))), (leads, ((2, "round"), (2, "round"))), (leads, [(2, "round")]),
                (leads, ([2, "round"],)), ([leads], ()), (list(leads), ()), ((ONE, O), ()), ((ONE, (2, 2)), ()), ((ONE, 1), ()),
                ((ONE, None), ()), ((ONE, (1, -1)), ()), (leads, ((2, "round", 1),)), (leads, ((2,),)), (leads, (2, "round")),
                (leads, None), (leads, "round"), (leads, ((2, None),)), (leads, ((2, ("round",)),)), (ONE, ()), deep(VICE, 9, tuple)]:
            self.assertIs(is_nest(thing), False, thing)
        for thing in spoiled(VICE):
            self.assertIs(is_nest(thing), False, thing)

    def test_what_a_move_is(self):
        chance, some = random.Random(4), {True: 0, False: 0}
        for nest in NESTS:
            for turns in [[Fraction(chance.randrange(-2, 3), chance.choice([1, 2])) for _ in nest[0]] for _ in range(6)] + [[Fraction(0)] * len(nest[0])]:
                move = move_by_hand(nest[0], turns)
                kept = not any(held_amounts(nest, turns))
                some[kept and any(turns)] += 1
                self.assertIs(is_move(nest, paired(move)), kept)
                wrong = paired(move[:-1] + [(move[-1][0] + 1, move[-1][1])])
                self.assertIs(is_move(nest, wrong), False)
                self.assertIs(is_move(nest, paired(move[:-1])), False)
                self.assertIs(is_move(nest, paired(move) + ((O, O),)), False)
        self.assertTrue(min(some.values()) > 100, some)

    def test_things_that_are_no_moves(self):
        move = ((THREE, TWO), ((1, 5), O))
        self.assertIs(is_move(VICE, move), True)
        self.assertIs(is_move(VICE, ((O, O), (O, O))), True)
        for thing in STRANGE + spoiled(move) + [
                list(move), (list(move[0]), move[1]), (move[0],), move[::-1], ((THREE, TWO), ((1, 5), (0, 2))), ((3, 2), (1, 0)),
                ((THREE, TWO), ((1, 5), (False, 1))), ((THREE, TWO), ((2, 10), O)), ((THREE, TWO), ((1, 5), HALF)), ((O, O), (O, O), (O, O)),
                ((TWO, THREE), (O, (1, 5))), (move,), ((O, O), (O, ONE))]:
            self.assertIs(is_move(VICE, thing), False, thing)


class Moves(unittest.TestCase):
    def test_freedom(self):
        some = {}
        for nest in NESTS:
            self.assertEqual(freedom(nest), freedom_by_hand(nest), nest)
            some[freedom(nest)] = some.get(freedom(nest), 0) + 1
        self.assertTrue(set(some) == {0, 1, 2, 3, 4} and min(some.values()) > 1, some)

    def test_plain_moves(self):
        for nest in NESTS:
            moves = plain_moves(nest)
            self.assertEqual(len(moves), freedom_by_hand(nest))
            firsts = []
            for move in moves:
                turns = [told(turn) for _, turn in move]
                self.assertEqual(paired(move_by_hand(nest[0], turns)), move)
                self.assertFalse(any(held_amounts(nest, turns)))
                firsts.append(next(at for at, turn in enumerate(turns) if turn))
            self.assertEqual(firsts, sorted(set(firsts)))
            for own, move in zip(firsts, moves):
                self.assertEqual([other[own][1] for other in moves], [ONE if other == move else O for other in moves])
            self.assertTrue(all(is_move(nest, move) for move in moves))

    def test_nothing_held_and_all_held(self):
        self.assertEqual(plain_moves(LOOSE), ((((3, 2), ONE), ((1, 10), O)), ((O, O), ((7, 5), ONE))))
        self.assertEqual(plain_moves((LOOSE[0], ((1, "round"), (2, "round")))), ())
        self.assertEqual(plain_moves(((TWO,), ((1, "along"),))), ())
        self.assertEqual(plain_moves(((TWO,), ((1, "along"), (1, "round")))), ())
        self.assertEqual(plain_moves(((TWO,), ())), (((TWO, ONE),),))

    def test_parts_that_go_and_never_turn_and_the_other_way(self):
        held_round = ((TWO, THREE), ((2, "round"),))
        self.assertEqual(plain_moves(held_round), (((TWO, ONE), ((-1, 1), O)),))
        # leads alike: what turns not goes not
        self.assertEqual(plain_moves(((TWO, TWO), ((2, "round"),))), (((TWO, ONE), (O, O)),))
        self.assertEqual(stay_of(((TWO, TWO), ((2, "round"),)), 2), ((ONE,), (TWO,)))
        self.assertEqual(plain_moves(((TWO, TWO), ((2, "along"),))), (((TWO, ONE), (O, O)),))
        # 0 less one another: it turns but goes not
        self.assertEqual(plain_moves(((TWO, (-2, 1)), ((2, "along"),))), (((TWO, ONE), (O, TWO)),))

    def test_move_with(self):
        chance, some = random.Random(9), {True: 0, False: 0}
        for nest in NESTS:
            many = len(nest[0])
            for _ in range(6):
                parts = sorted(chance.sample(range(1, many + 1), chance.randrange(0, many + 1)))
                turns = [Fraction(chance.randrange(-2, 3), chance.choice([1, 3])) for _ in parts]
                if chance.randrange(2):
                    # turns that some MOVE makes
                    own = [Fraction(0)] * many
                    for move in plain_moves(nest):
                        times = Fraction(chance.randrange(-3, 4), 2)
                        own = [one + times * told(turn) for one, (_, turn) in zip(own, move)]
                    turns = [own[part - 1] for part in parts]
                some[self.check(nest, parts, turns)] += 1
        self.assertTrue(min(some.values()) > 100, some)

    def check(self, nest, parts, turns):
        turned = tuple((part, pair(turn)) for part, turn in zip(parts, turns))
        rows = rows_by_hand(nest) + rows_by_hand(nest, tuple((part, "round") for part in parts))
        wanted = [Fraction(0)] * len(nest[1]) + turns
        # as many rows are needed with what is wanted beside them if it can be; one MOVE if as many as PARTS
        if rank(rows) < len(nest[0]) or rank([row + [own] for row, own in zip(rows, wanted)]) > rank(rows):
            self.assertRaises(Unfit, move_with, nest, turned)
            return False
        move = move_with(nest, turned)
        self.assertIs(is_move(nest, move), True)
        self.assertEqual([move[part - 1][1] for part in parts], [pair(turn) for turn in turns])
        return True

    def test_moves_told_by_too_little_or_too_much(self):
        self.assertRaises(Unfit, move_with, VICE, ())
        self.assertRaises(Unfit, move_with, VICE, ((2, O),))
        self.assertRaises(Unfit, move_with, VICE, ((2, ONE),))
        self.assertRaises(Unfit, move_with, VICE, ((1, ONE), (2, ONE)))
        self.assertEqual(move_with(VICE, ((1, ONE), (2, O))), plain_moves(VICE)[0])
        shut = (VICE[0], ((1, "round"), (2, "round")))
        self.assertEqual(move_with(shut, ()), ((O, O), (O, O)))
        self.assertEqual(move_with(shut, ((1, O),)), ((O, O), (O, O)))
        self.assertRaises(Unfit, move_with, shut, ((1, ONE),))


class Gains(unittest.TestCase):
    def test_gain_and_turn_for(self):
        some = {}
        for nest in NESTS:
            many = len(nest[0])
            for part, far in product(range(1, many + 1), repeat=2):
                gain = self.gain_by_hand(nest, part, far)
                some[gain if gain in (None, 0) else 1] = some.get(gain if gain in (None, 0) else 1, 0) + 1
                if gain is None:
                    self.assertRaises(Unfit, gain_of, nest, part, far)
                else:
                    self.assertEqual(gain_of(nest, part, far), pair(gain))
                if not gain:
                    self.assertRaises(Unfit, turn_for, nest, part, far, (3, 7))
                    self.assertRaises(Unfit, turn_for, nest, part, far, O)
                else:
                    self.assertEqual(turn_for(nest, part, far, (3, 7)), pair(Fraction(3, 7) / gain))
                    self.assertEqual(turn_for(nest, part, far, O), O)
        self.assertTrue(len(some) == 3 and min(some.values()) > 50, some)

    def gain_by_hand(self, nest, part, far):
        """How far it goes by a turn of part if all that part leaves free leaves far where it is."""
        if not does(nest, part, "round"):
            return None
        free = freedom_by_hand(nest, [(part, "round")])
        if freedom_by_hand(nest, [(part, "round"), (far, "along")]) < free:
            return None
        # some MOVE in which part turns: of all plain ones just one is needed
        move = next(own for own in plain_moves(nest) if own[part - 1][1] != O)
        return told(move[far - 1][0]) / told(move[part - 1][1])

    def test_gains_are_differences_of_leads(self):
        for one, other in product([ONE, (3, 2), (-7, 5), (1, 4)], [ONE, (3, 2), (7, 5), (-1, 3)]):
            nest = ((one, other), ((2, "round"),))
            self.assertEqual(gain_of(nest, 1, 2), pair(told(one) - told(other)))
            # as the leads of two screws of which the one leads what the other draws back
            for turns in (ONE, (5, 2)):
                if one[0] > 0 and other[0] > 0:
                    led = told(place_of(one, turns)) - told(place_of(other, turns))
                    self.assertEqual(told(gain_of(nest, 1, 2)) * told(turns), led)

    def test_gains_that_differ(self):
        self.assertRaises(Unfit, gain_of, LOOSE, 1, 2)
        self.assertEqual(gain_of(LOOSE, 1, 1), (3, 2))
        self.assertEqual(gain_of(((TWO, TWO), ()), 2, 2), TWO)
        self.assertEqual(gain_of(((TWO, TWO), ((2, "round"),)), 1, 2), O)


class Clicks(unittest.TestCase):
    def test_finest_and_clicks(self):
        chance, some = random.Random(2), {}
        for nest in NESTS:
            many = len(nest[0])
            for _ in range(4):
                parts = sorted(chance.sample(range(1, many + 1), min(many, max(0, freedom(nest) + chance.choice([-1, 0, 0, 0, 1])))))
                dials = tuple((part, chance.choice([1, 2, 3, 10])) for part in parts)
                far = chance.randrange(1, many + 1)
                kind = self.check(nest, dials, far, chance)
                some[kind] = some.get(kind, 0) + 1
        self.assertTrue(len(some) == 3 and min(some.values()) > 20, some)

    def check(self, nest, dials, far, chance):
        free, held = freedom_by_hand(nest), [(part, "round") for part, _ in dials]
        if len(dials) != free or freedom_by_hand(nest, held) > 0:
            self.assertRaises(Unfit, finest_move, nest, dials, far)
            self.assertRaises(Unfit, clicks_for, nest, dials, far, O)
            self.assertRaises(Unfit, are_clicks, nest, dials, far, O, None)
            return "unfit"
        gains = [told(move_with(nest, tuple((own, ONE if own == part else O) for own, _ in dials))[far - 1][0]) / clicks for part, clicks in dials]
        bottom = 1
        for gain in gains:
            bottom *= gain.denominator
        step = Fraction(gcd(*(int(gain * bottom) for gain in gains)) if gains else 0, bottom)
        self.assertEqual(finest_move(nest, dials, far), pair(step) if step else None)
        for shift in (Fraction(0), step, -7 * step, step / 2, Fraction(10 ** 40) * step, Fraction(chance.randrange(-5, 6), 7)):
            if step and (shift / step).denominator > 1 or not step and shift:
                self.assertRaises(NoPaper, clicks_for, nest, dials, far, pair(shift))
                self.assertIs(are_clicks(nest, dials, far, pair(shift), tuple(0 for _ in dials)), False)
                continue
            clicks = clicks_for(nest, dials, far, pair(shift))
            self.assertTrue(isinstance(clicks, tuple) and all(type(own) is int for own in clicks) and len(clicks) == len(dials))
            self.assertEqual(sum(gain * own for gain, own in zip(gains, clicks)), shift)
            self.assertIs(are_clicks(nest, dials, far, pair(shift), clicks), True)
            for other in self.others(clicks):
                self.assertIs(are_clicks(nest, dials, far, pair(shift), other), sum(gain * own for gain, own in zip(gains, other)) == shift)
            self.assertIs(are_clicks(nest, dials, far, pair(shift), clicks + (0,)), False)
        return "some" if step else "none"

    def others(self, clicks):
        return [clicks[:at] + (clicks[at] + more,) + clicks[at + 1:] for at in range(len(clicks)) for more in (1, -3, 10 ** 40)]

    def test_by_trial(self):
        dials = ((1, 6), (2, 4))
        made = {Fraction(1, 10) * Fraction(one, 6) + Fraction(7, 5) * Fraction(two, 4) for one in range(-60, 61) for two in range(-60, 61)}
        self.assertEqual(finest_move(LOOSE, dials, 2), pair(min(own for own in made if own > 0)))

    def test_no_dials_and_clicks_of_1(self):
        shut = (VICE[0], ((1, "round"), (2, "round")))
        self.assertIsNone(finest_move(shut, (), 1))
        self.assertEqual(clicks_for(shut, (), 1, O), ())
        self.assertRaises(NoPaper, clicks_for, shut, (), 1, ONE)
        self.assertIs(are_clicks(shut, (), 1, O, ()), True)
        self.assertIs(are_clicks(shut, (), 1, ONE, ()), False)
        self.assertRaises(Unfit, finest_move, shut, ((1, 1),), 1)
        self.assertRaises(Unfit, finest_move, VICE, (), 1)
        self.assertEqual(finest_move(VICE, ((1, 1),), 2), (1, 10))
        self.assertEqual(finest_move(VICE, ((1, 1),), 1), (3, 2))
        self.assertRaises(Unfit, finest_move, VICE, ((2, 1),), 2)
        self.assertIsNone(finest_move(((TWO, TWO), ((2, "round"),)), ((1, 8),), 2))
        self.assertEqual(clicks_for(((TWO, TWO), ((2, "round"),)), ((1, 8),), 2, O), (0,))

    def test_shifts_of_many_figures(self):
        shift = (7 * 10 ** 60 + 1, 500)
        clicks = clicks_for(LOOSE, ((1, 25), (2, 20)), 2, shift)
        self.assertEqual(Fraction(clicks[0], 250) + Fraction(7 * clicks[1], 100), Fraction(*shift))

    def test_things_that_are_no_clicks(self):
        dials = ((1, 25), (2, 20))
        self.assertIs(are_clicks(LOOSE, dials, 2, (1, 500), (-17, 1)), True)
        self.assertIs(are_clicks(LOOSE, ((1, 25), (2, 20)), 1, (3, 50), (1, 0)), True)
        for thing in STRANGE + spoiled((-17, 1), False) + [[-17, 1], (-17, True), (-17,), (-17, 1, 0), (1, -17), "(-17, 1)"]:
            self.assertIs(are_clicks(LOOSE, dials, 2, (1, 500), thing), False, thing)
        for thing in (True, (True, 0), (1, False), [1, 0]):
            self.assertIs(are_clicks(LOOSE, ((1, 25), (2, 20)), 1, (3, 50), thing), False, thing)
        for thing in STRANGE + [(0,)]:
            self.assertRaises(Unfit, are_clicks, VICE, (), 2, O, thing)


class Stays(unittest.TestCase):
    def test_free_or_stay(self):
        some = {True: 0, False: 0}
        for nest in NESTS:
            for part in range(1, len(nest[0]) + 1):
                free = does(nest, part, "round") or does(nest, part, "along")
                some[free] += 1
                if free:
                    move = free_move(nest, part)
                    moving = [own for own in plain_moves(nest) if own[part - 1] != (O, O)]
                    self.assertEqual(move, moving[0])
                    self.assertRaises(NoPaper, stay_of, nest, part)
                else:
                    self.assertRaises(NoPaper, free_move, nest, part)
                    stay = stay_of(nest, part)
                    self.assertTrue(self.stays(nest, part, stay))
                    self.assertIs(is_stay(nest, part, stay), True)
                    self.check_others(nest, part, stay)
        self.assertTrue(min(some.values()) > 100, some)

    def stays(self, nest, part, stay):
        chance = random.Random(5)
        for _ in range(6):
            turns = [Fraction(chance.randrange(-50, 50), 7) for _ in nest[0]]
            shift, turn = move_by_hand(nest[0], turns)[part - 1]
            amounts = held_amounts(nest, turns)
            if [sum(told(own) * amount for own, amount in zip(row, amounts)) for row in stay] != [turn, shift]:
                return False
        return True

    def check_others(self, nest, part, stay):
        for row, at, more in product((0, 1), range(len(nest[1])), (1, Fraction(-1, 3))):
            other = [list(own) for own in stay]
            other[row][at] = pair(told(other[row][at]) + more)
            other = tuple(map(tuple, other))
            self.assertIs(is_stay(nest, part, other), self.stays(nest, part, other))

    def test_stays_of_parts_that_are_held_and_not(self):
        self.assertIs(is_stay(VICE, 2, ((ONE,), (O,))), False)
        self.assertIs(is_stay(LOOSE, 1, ((), ())), False)
        # held twice over: more than one STAY
        nest = ((TWO,), ((1, "along"), (1, "round")))
        for rounds, alongs in product([(O, ONE), (HALF, O), ((1, 4), HALF)], [(ONE, O), (O, TWO), (HALF, ONE)]):
            self.assertIs(is_stay(nest, 1, (rounds, alongs)), True)
        self.assertIs(is_stay(nest, 1, ((O, ONE), (ONE, TWO))), False)

    def test_things_that_are_no_stays(self):
        shut = (VICE[0], ((1, "along"), (2, "round")))
        stay = ((O, ONE), ((1, 15), (7, 5)))
        self.assertIs(is_stay(shut, 2, stay), True)
        for thing in STRANGE + spoiled(stay) + [list(stay), (list(stay[0]), stay[1]), stay[::-1], stay + ((),), stay[:1], (stay[0], stay[1] + (O,)),
                                                (stay[0], (stay[1][0],)), (((0, 2), ONE), stay[1]), ((O, (True, 1)), stay[1]), (stay,), ((0, 1), (1, 7))]:
            self.assertIs(is_stay(shut, 2, thing), False, thing)
        for thing in STRANGE:
            self.assertIs(is_stay(LOOSE, 2, thing), False, thing)


class Reach(unittest.TestCase):
    def test_reach(self):
        chance, some = random.Random(7), {}
        for nest in NESTS:
            many = len(nest[0])
            for part in range(1, many + 1):
                stops = tuple((pair(Fraction(-chance.randrange(4), chance.choice([1, 2]))), pair(Fraction(chance.randrange(4), chance.choice([1, 3])))) for _ in range(many))
                if freedom_by_hand(nest) != 1 or not does(nest, part, "round"):
                    self.assertRaises(Unfit, reach_of, nest, stops, part, True)
                    continue
                for up in (True, False):
                    reach = reach_of(nest, stops, part, up)
                    found = self.reach_by_hand(nest, stops, part, up)
                    self.assertEqual(reach, found)
                    some[found[1]] = some.get(found[1], 0) + 1
        self.assertTrue(set(some) == {1, 2, 3, 4} and min(some.values()) > 4, some)

    def reach_by_hand(self, nest, stops, part, up):
        move = plain_moves(nest)[0]
        times = (1 if up else -1) / told(move[part - 1][1])
        found = []
        for number, ((shift, _), (low, high)) in enumerate(zip(move, stops)):
            gone = times * (told(shift) - (told(move[number - 1][0]) if number else 0))
            if gone:
                found.append((told(high if gone > 0 else low) / gone, number + 1))
        return (pair(min(found)[0]), min(found)[1])

    def test_stops_that_several_come_to_and_stops_of_0(self):
        nest = ((TWO, ONE), ((2, "round"),))
        self.assertEqual(reach_of(nest, ((O, (4, 1)), ((-2, 1), O)), 1, True), (TWO, 1))
        self.assertEqual(reach_of(nest, ((O, (4, 1)), ((-1, 1), O)), 1, True), (ONE, 2))
        self.assertEqual(reach_of(nest, ((O, (4, 1)), ((-2, 1), O)), 1, False), (O, 1))
        self.assertEqual(reach_of(nest, (((-9, 1), O), ((-2, 1), O)), 1, False), (O, 2))
        self.assertEqual(reach_of(nest, ((O, O), (O, O)), 1, True), (O, 1))

    def test_freedom_and_turns_that_do_not_fit(self):
        stops = ((O, O), (O, O))
        self.assertRaises(Unfit, reach_of, LOOSE, stops, 1, True)
        self.assertRaises(Unfit, reach_of, (VICE[0], ((1, "round"), (2, "round"))), stops, 1, True)
        self.assertRaises(Unfit, reach_of, VICE, stops, 2, True)


if __name__ == "__main__":
    unittest.main()
