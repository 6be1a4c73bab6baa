"""[24]: each word of the CLAIMS, so and not so; all things shown to all CLAIMS."""

import random
import unittest
from fractions import Fraction

from screwshop.bars import plain_bar
from screwshop.dividing import circles_for, is_no_circles
from screwshop.errors import NoPaper, NoWord, Unfit
from screwshop.judge import is_claim, is_paper, is_so, not_so, paper, shows, words_so
from screwshop.misfits import is_parting_at, pieces_moved, shift_between
from screwshop.nested import is_move, is_stay
from screwshop.passes import are_cuts_for, bar_after
from screwshop.sheets import denial, is_denial, is_lines
from screwshop.tied import goes_by, is_lock
from tests.support import STRANGE, deep, listed, spoiled
from tests.test_lines import pair, told
from tests.test_misfits import SAW, bent

O, HALF, ONE, TWO, THREE = (0, 1), (1, 2), (1, 1), (2, 1), (3, 1)
SHOP, STEEP, WORN = (HALF, ((), False), (4, 4)), (TWO, (((3, 2),), True), (4, 3)), (((TWO, THREE), (ONE, (5, 1))), ((), False), (4, 4))
STRAIGHT, LATE, SIDE = ("lead", ONE, O), ("lead", ONE, HALF), ("lead", (-1, 1), O)
PART, SIDE_BAR = (THREE, ((STRAIGHT, O, THREE, 1), (LATE, O, TWO, 2))), (THREE, ((SIDE, O, TWO, 3),))
NUT, BACK = (ONE, (O,), 1), ((-1, 1), (O,), 1)
STANDS = [((O, O), (ONE, O)), ((ONE, O), (ONE, O)), (((9, 1), O), (ONE, O)), (((9, 1), O), ((9, 1), HALF)), ((O, HALF), (TWO, O))]
BAD_STAND = ((O, (1, 3)), (ONE, O))
VICE = (((3, 2), (7, 5)), ((2, "round"),))
VIEW = ((((0, 1), O), (HALF, HALF)), (((3, 4), (3, 4)),))


def bar_of(lines, length=ONE):
    return (length, tuple(sorted((line, O, length, 1) for line in lines)))


CUTS = [("cuts", SHOP, bar_of([("lead", HALF, phase)])) for phase in (O, (1, 4))]
CUTS += [("cuts", SHOP, (ONE, ())), ("cuts", SHOP, bar_of([("flute", O)])), ("cuts", SHOP, bar_of([("lead", HALF, O), ("lead", HALF, (1, 3)), ("lead", (-1, 2), O)])),
         ("cuts", SHOP, (ONE, ((("lead", HALF, O), O, HALF, 1), (("lead", HALF, O), (1, 4), ONE, 1), (("ring", HALF), HALF, HALF, 2)))),
         ("cuts", STEEP, (TWO, ((("lead", (-3, 1), ONE), O, ONE, 3), (("lead", (-3, 1), TWO), HALF, TWO, 1)))), ("cuts", STEEP, bar_of([("lead", (3, 1), ONE)]))]
TIES = [("stiff",), ("slide", (-1, 1)), ("gear", TWO)]
GOES = [("goes", PART, NUT, SIDE_BAR, BACK, tie, stand) for tie in TIES for stand in STANDS[:4]]
# on a GROOVE that begins and ends beside the ends of the bar: onward alone, back alone, either way
SHORT_BAR = ((4, 1), ((STRAIGHT, ONE, THREE, 1),))
GOES += [("goes", SHORT_BAR, NUT, PART, NUT, ("stiff",), ((place, O), ((9, 1), O))) for place in (ONE, THREE, TWO)]
TRACKS = [(ONE, ONE, ONE, 2), (ONE, ONE, ONE, 1), (THREE, THREE, (6, 1), 2), ((4, 1), THREE, (6, 1), 2), ((5, 2), ONE, ONE, 6), ((5, 6), ONE, ONE, 6), (ONE, ONE, HALF, 1)]
COMES = [("comes", track) for track in TRACKS]
ALONG = pieces_moved(SAW[:1], (TWO, (1, 4)))
LED = [("led", SAW, pieces_moved(SAW, (TWO, (1, 4)))), ("led", SAW, SAW[:1]), ("led", SAW[:1], ALONG), ("led", SAW[1:], ALONG), ("led", SAW, SAW),
       ("led", bent(Fraction(0), Fraction(0), [(Fraction(1), Fraction(2))]), bent(Fraction(0), Fraction(0), [(Fraction(1, 2), Fraction(2))]))]
STILL_ONE = ((ONE, ONE), ())
NESTS = [STILL_ONE, VICE, (VICE[0], ()), (VICE[0], ((1, "along"), (2, "round"))), ((TWO, TWO), ((2, "round"),)), ((ONE, (-1, 1), TWO), ((1, "along"), (3, "round")))]
MOVES = [("moves", nest, part) for nest in NESTS for part in range(1, len(nest[0]) + 1)]
DIVIDES = [("divides", (40, (15, 16, 18)), many) for many in (1, 6, 7, 9, 40, 96, 41)]
VIEWS = [(VIEW, ("flute", ONE)), (VIEW, (ONE,)), (((), VIEW[1]), ("ring",)), ((VIEW[0], ()), ("ring", "flute", HALF)),
         ((((O, O),), ((O, HALF), (ONE, O))), ("ring", "flute")), ((((O, O),), ((O, HALF),)), ("ring",))]
LINES = [("lines", view, kinds) for view, kinds in VIEWS]
CLAIMS = CUTS + GOES + COMES + LED + MOVES + DIVIDES + LINES
WORDS = ["cuts", "goes", "comes", "led", "moves", "divides", "lines"]


def is_one(thing):
    return isinstance(thing, int) and not isinstance(thing, bool)


def are_numbers(thing, many):
    return isinstance(thing, tuple) and len(thing) == many and all(map(is_one, thing))


def is_fraction_from_zero(thing):
    return are_numbers(thing, 2) and thing[1] > 0 and pair(Fraction(*thing)) == thing


def left_by(lathe, line):
    """Whether a pass leaves it: the lead, and a phase that is a whole multiple of pitch by the ratio's bottom."""
    ratio = Fraction(1)
    for driver, driven in lathe[1][0]:
        ratio *= Fraction(driver, driven)
    ratio = -ratio if lathe[1][1] else ratio
    lead = told(lathe[0]) * ratio
    return line[0] == "lead" and told(line[1]) == lead and (told(line[2]) * ratio.denominator / told(lathe[0])).denominator == 1


def shown_by_hand(claim, thing):
    """The pair: whether thing shows that it is so, that it is not."""
    word, things = claim[0], claim[1:]
    if word == "cuts":
        grooves = plain_bar(things[1])[1]
        return (are_cuts_for(things[0], things[1], thing),
                is_one(thing) and 0 <= thing < len(grooves) and not left_by(things[0], grooves[thing][0]))
    if word == "goes":
        return is_fraction_from_zero(thing) and thing != O and goes_by(*things, thing), is_lock(*things, thing)
    if word == "comes":
        length, right, left, starts = things[0]
        beat = starts * (told(length) / told(right) + told(length) / told(left))
        return (are_numbers(thing, 2) and thing[0] * beat + thing[1] * starts == 1,
                is_one(thing) and thing > 1 and beat % thing == 0 == starts % thing)
    if word == "led":
        try:
            motion = shift_between(*things)
        except NoPaper:
            motion = None
        return motion is not None and repr(thing) == repr(motion), is_parting_at(*things, thing)
    if word == "moves":
        nest, part = things
        return is_move(nest, thing) and thing[part - 1] != (O, O), is_stay(nest, part, thing)
    if word == "divides":
        return is_one(thing) and thing in circles_for(*things), is_no_circles(*things, thing)
    return is_lines(*things, thing), is_denial(*things, thing)


def so_by_hand(claim):
    word, things = claim[0], claim[1:]
    if word == "cuts":
        return all(left_by(things[0], groove[0]) for groove in things[1][1])
    if word == "goes":
        return any(goes_by(*things, amount) for amount in ((1, 10 ** 9), (-1, 10 ** 9)))
    if word == "comes":
        return not any(shown_by_hand(claim, number)[1] for number in range(2, 50))
    if word == "led":
        return any(not is_parting_at(*things, O) and pieces_moved(plain(things[0]), motion) == plain(things[1]) for motion in motions_to_try(things))
    if word == "moves":
        return any(move[things[1] - 1] != (O, O) for move in moves_to_try(things[0]))
    if word == "divides":
        return any(things[0][0] * circle % things[1] == 0 for circle in things[0][1])
    try:
        denial(*things)
    except NoPaper:
        return True
    return False


def plain(pieces):
    found = [list(pieces[0])]
    for line, start, end in pieces[1:]:
        if line == found[-1][0]:
            found[-1][2] = end
        else:
            found.append([line, start, end])
    return tuple(map(tuple, found))


def motions_to_try(things):
    return [(pair(told(things[1][0][1]) - told(things[0][0][1])), pair(Fraction(own, 24))) for own in range(24)]


def moves_to_try(nest):
    """MOVES of small turns, tried one by one."""
    found, many = [], len(nest[0])
    for number in range(5 ** many):
        turns = [Fraction(number // 5 ** own % 5 - 2) for own in range(many)]
        move, shift, ahead = [], Fraction(0), Fraction(0)
        for lead, turn in zip(nest[0], turns):
            shift, ahead = shift + told(lead) * (turn - ahead), turn
            move.append((pair(shift), pair(turn)))
        if is_move(nest, tuple(move)):
            found.append(tuple(move))
    return found


class Asked(unittest.TestCase):
    def test_so_and_not_so(self):
        some = {}
        for claim in CLAIMS:
            so = so_by_hand(claim)
            self.assertIs(is_so(claim), so, claim)
            self.assertIs(is_so(listed(claim)), so)
            some[(claim[0], so)] = some.get((claim[0], so), 0) + 1
        self.assertEqual(set(some), {(word, so) for word in WORDS for so in (True, False)})

    def test_papers(self):
        for claim in CLAIMS:
            so, found = so_by_hand(claim), paper(claim)
            self.assertEqual(shown_by_hand(claim, found), (so, not so), (claim, found))
            self.assertIs(shows(claim, found), so)
            self.assertIs(is_paper(claim, found), True)
            self.assertEqual(repr(paper(listed(claim))), repr(found))

    def test_all_things_are_shown_to_all_claims(self):
        things = [paper(claim) for claim in CLAIMS] + STRANGE + [2, 3, 15, 18, (1, -1), (7, -1), (-3, 5), (0, 1), (1, 1), (9, 9, 9), (7, 7, 7), ((3, 1), (1, 4)), ((2, 1), (1, 4))]
        things += [((O, O),) * many for many in (1, 2, 3)] + [((ONE, ONE), (O, O)), ((O, O), (ONE, ONE)), ((ONE, ONE), (ONE, ONE)), ((TWO, ONE), (O, O))]
        things += [other for thing in [paper(claim) for claim in CLAIMS[::3]] for other in random.Random(1).sample(spoiled(thing, False), 4)]
        some = {}
        for claim in CLAIMS:
            so = so_by_hand(claim)
            for thing in things:
                both = shown_by_hand(claim, thing)
                self.assertTrue(both in ((False, False), (so, not so)), (claim, thing))
                told_now = so if any(both) else None
                self.assertIs(shows(claim, thing), told_now, (claim, thing))
                self.assertIs(is_paper(claim, thing), any(both))
                some[(claim[0], told_now)] = some.get((claim[0], told_now), 0) + 1
        self.assertEqual(set(some), {(word, shown) for word in WORDS for shown in (True, False, None)})

    def test_spoilt_papers(self):
        for claim in CLAIMS:
            found = paper(claim)
            for thing in spoiled(found, False):
                both = shown_by_hand(claim, thing)
                self.assertIs(shows(claim, thing), None if not any(both) else both[0], (claim, thing))
            if isinstance(found, tuple) and found:
                self.assertIsNone(shows(claim, list(found)))
                self.assertIs(is_paper(claim, listed(found)), False)

    def test_moves_in_which_the_part_neither_goes_nor_turns(self):
        only_first = ((ONE, ONE), (O, O))
        self.assertEqual([shows(("moves", STILL_ONE, part), only_first) for part in (1, 2)], [True, None])
        self.assertEqual([shows(("moves", VICE, part), ((O, O), (O, O))) for part in (1, 2)], [None, None])

    def test_stands_that_go_one_way_alone(self):
        onward, back, both = GOES[-3:]
        self.assertEqual([[shows(claim, own) for own in ((1, 9), (-1, 9), (2, 1), (5, 2))] for claim in (onward, back, both)],
                         [[True, None, True, None], [None, True, None, None], [True, True, None, None]])

    def test_numbers_in_place_of_true_and_false(self):
        one_start, divided = ("comes", (ONE, ONE, ONE, 1)), ("divides", (40, (1, 2)), 40)
        self.assertEqual([shows(one_start, own) for own in ((0, 1), (False, 1), (0, True), [0, 1], (1, -1))], [True, None, None, None, True])
        self.assertEqual([shows(divided, own) for own in (1, True, (1,), "1", 2)], [True, None, None, None, True])
        odd = CUTS[1]
        self.assertEqual([shows(odd, own) for own in (0, False, 1, -1, (0,))], [False, None, None, None, None])
        self.assertEqual([shows(GOES[4], own) for own in ((1, 4), (-9, 1), (True, 4), (2, 8), O, (99, 1), [1, 4])], [True, True, None, None, None, None, None])


class Refused(unittest.TestCase):
    FUNCTIONS = [is_so, paper, lambda claim: is_paper(claim, None), lambda claim: shows(claim, None), lambda claim: not_so((claim,)), lambda claim: words_so((claim,)),
                 lambda claim: is_paper(claim, 0), lambda claim: shows(claim, (1, 1))]

    def test_unknown_words(self):
        for call in self.FUNCTIONS:
            for word in ("loud", "", "Cuts", "cut", None, 3, True, "cuts "):
                for claim in [(word,), (word, SHOP), (word, SHOP, CUTS[0][2]), [word, [1]]]:
                    with self.assertRaises(NoWord) as caught:
                        call(claim)
                    self.assertEqual(repr(caught.exception.word), repr(word))

    def test_an_empty_tuple_has_no_word(self):
        for call in self.FUNCTIONS:
            for claim in ((), []):
                with self.assertRaises(NoWord) as caught:
                    call(claim)
                self.assertIsNone(caught.exception.word)

    def test_what_the_error_keeps_is_made_of_tuples(self):
        for call in self.FUNCTIONS:
            with self.assertRaises(NoWord) as caught:
                call([["cuts", [1, 2]], SHOP])
            self.assertEqual(repr(caught.exception.word), repr(("cuts", (1, 2))))

    def test_a_thing_too_many_or_too_few(self):
        for call in self.FUNCTIONS:
            for claim in CLAIMS[::2] + [("cuts", WORN, (ONE, ())), GOES[0][:6] + (BAD_STAND,)]:
                for other in (claim[:1], claim[:-1], claim + (1,), claim + claim[1:], listed(claim[:-1])):
                    self.assertRaises(Unfit, call, other)

    def test_what_the_functions_of_a_point_raise(self):
        for call in self.FUNCTIONS:
            self.assertRaises(Unfit, call, ("cuts", WORN, CUTS[0][2]))
            self.assertRaises(Unfit, call, ("cuts", WORN, (ONE, ())))
            for tie in TIES:
                self.assertRaises(Unfit, call, ("goes", PART, NUT, SIDE_BAR, BACK, tie, BAD_STAND))

    def test_no_paper_is_not_raised(self):
        for claim in CLAIMS:
            for call in self.FUNCTIONS:
                call(claim)

    def test_several_claims(self):
        so, wrong = COMES[1], COMES[0]
        worn, loud, few = ("cuts", WORN, (ONE, ())), ("loud", 1), ("comes",)
        for call in (not_so, words_so):
            self.assertRaises(Unfit, call, (so, worn, loud))
            self.assertRaises(NoWord, call, (so, loud, worn))
            self.assertRaises(Unfit, call, (wrong, few, loud))
            self.assertRaises(NoWord, call, [list(loud), few])
            self.assertRaises(NoWord, call, (wrong, wrong, loud))


class Several(unittest.TestCase):
    def test_not_so_and_words_so(self):
        chance = random.Random(7)
        for _ in range(300):
            claims = tuple(chance.choice(CLAIMS) for _ in range(chance.randrange(7)))
            so = [so_by_hand(claim) for claim in claims]
            self.assertEqual(not_so(claims), tuple(number for number, own in enumerate(so) if not own))
            words = sorted({claim[0] for claim in claims})
            self.assertEqual(words_so(claims), tuple(word for word in words if all(own for own, claim in zip(so, claims) if claim[0] == word)))

    def test_none_and_one_twice(self):
        self.assertEqual((not_so(()), words_so(()), not_so([]), words_so([])), ((), (), (), ()))
        so, wrong = COMES[1], COMES[0]
        self.assertEqual((not_so((so, so)), words_so((so, so))), ((), ("comes",)))
        self.assertEqual((not_so((wrong, wrong)), words_so((wrong, wrong))), ((0, 1), ()))
        self.assertEqual((not_so((wrong, so, CUTS[0])), words_so((so, wrong, CUTS[0]))), ((0,), ("cuts",)))
        self.assertEqual((not_so(claims=[listed(wrong), listed(so)]), words_so(claims=[listed(wrong), listed(DIVIDES[0])])), ((0,), ("divides",)))


class Shapes(unittest.TestCase):
    def test_claims(self):
        for claim in CLAIMS + [("cuts", WORN, (ONE, ())), GOES[0][:6] + (BAD_STAND,), ("divides", (10 ** 40, (1,)), 10 ** 40)]:
            self.assertIs(is_claim(claim), True, claim)
            self.assertIs(is_claim(thing=claim), True)
            for other in (claim[:-1], claim + (1,), claim[:1], list(claim), claim[1:], (claim,), listed(claim), claim[::-1], ("loud",) + claim[1:], (None,) + claim[1:],
                          (claim[0],) + claim, (claim[:1],) + claim[1:]):
                self.assertIs(is_claim(other), False, other)

    def test_spoilt_claims(self):
        for claim in [CUTS[4], CUTS[6], GOES[0], GOES[1], GOES[4], GOES[8], COMES[2], LED[0], MOVES[0], MOVES[4], DIVIDES[1], LINES[0], LINES[3]]:
            for thing in spoiled(claim, claim[0] != "cuts"):
                self.assertIs(is_claim(thing), False, thing)
        for thing in STRANGE + [("cuts",), ("comes", ()), ("comes", 1), ("lines", (), ()), ("moves", (), 1), deep(COMES[0], 10, tuple), deep(COMES[0], 1, list)]:
            self.assertIs(is_claim(thing), False, thing)

    def test_claims_of_other_shapes(self):
        lathe, bar = CUTS[0][1:]
        for thing in [("cuts", bar, lathe), ("cuts", ((2, 4), ((), False), (4, 4)), bar), ("cuts", (HALF, ((), 0), (4, 4)), bar), ("cuts", (HALF, ((), False), (4, 0)), bar),
                      ("cuts", lathe, ((2, 2), ())), ("cuts", lathe, (ONE, bar[1] + bar[1])), ("cuts", lathe, (HALF, bar[1])), ("cuts", lathe, (ONE, [])), ("cuts", [HALF, ((), False), (4, 4)], bar)]:
            self.assertIs(is_claim(thing), False, thing)
        for thing in [("comes", (ONE, ONE, (2, 3), 1)), ("comes", (ONE, ONE, ONE, True)), ("comes", [ONE, ONE, ONE, 1]), ("comes", (ONE, ONE, (2, 2), 1)), ("comes", (ONE, ONE, ONE, 0)),
                      ("led", SAW, SAW[::-1]), ("led", SAW, ()), ("led", SAW, list(SAW)), ("led", SAW[0], SAW), ("moves", VICE, 0), ("moves", VICE, 3), ("moves", VICE, True),
                      ("moves", VICE, -1), ("moves", (VICE[0], ((3, "round"),)), 1), ("moves", VICE, ONE), ("divides", (40, (16, 15)), 7), ("divides", (40, (15, 16)), 0),
                      ("divides", (40, (15, 16)), True), ("divides", (40, (15, 16)), ONE), ("divides", (40, ()), 7)]:
            self.assertIs(is_claim(thing), False, thing)
        view = VIEW
        for thing in [("lines", view, ()), ("lines", view, ("ring", "ring")), ("lines", view, ("ring", ONE, "ring")), ("lines", view, (ONE, ONE)), ("lines", view, (O,)), ("lines", view, ((2, 2),)), ("lines", view, ("lead",)),
                      ("lines", view, "ring"), ("lines", view, ["ring"]), ("lines", (view[0], view[0][:1]), ("ring",)), ("lines", (view[0][::-1], ()), ("ring",)), ("lines", (view[0],), ("ring",)),
                      ("lines", (view[0], view[1] * 2), ("ring",)), ("lines", (view[0] + (), [((3, 4), (3, 4))]), ("ring",)), ("lines", (((O, ONE),), ()), ("ring",)), ("lines", (((O, O, O),), ()), ("ring",)),
                      ("lines", (view[0], ()), ("ring", None)), ("lines", (view[0], ()), ("ring", True)), ("lines", (view[0], ()), ("ring", 1))]:
            self.assertIs(is_claim(thing), False, thing)
        stand = STANDS[0]
        for at, others in [(1, [NUT, (ONE, ()), None]), (2, [PART, (ONE, (), 1), (ONE, (O,), 0)]), (3, [NUT]), (4, [(ONE, (ONE,), 1)]), (5, [("stiff", ONE), ("gear", O), "stiff", ("stuff",)]),
                           (6, [stand[:1], stand + stand, ((O, O), (ONE,)), ((O, 0), (ONE, O)), ((O, (0, 2)), (ONE, O)), [(O, O), (ONE, O)], ([O, O], (ONE, O)), (O, ONE), ((O, O, O), (ONE, O)), None])]:
            for other in others:
                thing = GOES[0][:at] + (other,) + GOES[0][at + 1:]
                if at != 1 or other != (ONE, ()):
                    self.assertIs(is_claim(thing), False, thing)


class Whole(unittest.TestCase):
    def test_what_passes_leave_can_be_cut_by_their_own_cuts(self):
        chance, some = random.Random(2), 0
        for _ in range(60):
            lathe = chance.choice([SHOP, STEEP, (THREE, (((20, 30), (7, 5)), False), (6, 2))])
            pitch, length, cuts = told(lathe[0]), 3 * told(lathe[0]), []
            ratio = Fraction(1)
            for driver, driven in lathe[1][0]:
                ratio *= Fraction(driver, driven)
            ratio = -ratio if lathe[1][1] else ratio
            for _ in range(chance.randrange(5)):
                place, out = chance.sample([length * Fraction(own, 7) for own in range(8)], 2)
                cuts.append((pair((place / pitch + chance.randrange(-5, 6)) / ratio), pair(place), pair(out), chance.randrange(1, 4)))
            bar = bar_after(lathe, (pair(length), ()), tuple(cuts))
            claim = ("cuts", lathe, bar)
            self.assertIs(is_so(claim), True)
            self.assertIs(shows(claim, tuple(cuts)), True)
            self.assertIs(shows(claim, tuple(cuts[::-1])), True)
            self.assertEqual(bar_after(lathe, (pair(length), ()), paper(claim)), bar)
            some += len(bar[1])
        self.assertGreater(some, 60)


if __name__ == "__main__":
    unittest.main()
