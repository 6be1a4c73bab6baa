"""[2]: each function with lists in place of tuples, by names; what it is handed, what it returns."""

import copy
import importlib
import unittest

from tests.support import INTERFACE, has_list, listed

LISTS = ["rows_of", "dials_that_do"]

LEAD, LEFT, RING, FLUTE = ("lead", (1, 2), (1, 8)), ("lead", (-1, 2), (1, 8)), ("ring", (1, 4)), ("flute", (1, 2))
TRAIN, BOX = (((20, 40), (30, 60)), True), (20, 30, 40, 60)
THREAD, KEY, NECK = ("lead", (3, 1), (1, 1)), ("flute", (1, 4)), ("ring", (2, 1))
ROD = ((6, 1), ((KEY, (0, 1), (6, 1), 1), (THREAD, (0, 1), (6, 1), 2), (NECK, (2, 1), (2, 1), 3)))
TWICE = ((6, 1), ((THREAD, (0, 1), (4, 1), 2), (THREAD, (2, 1), (6, 1), 2)))
UNEVEN = ((6, 1), ((THREAD, (0, 1), (6, 1), 1), (THREAD, (2, 1), (4, 1), 2)))
BARE, SHORT = ((6, 1), ()), ((5, 1), ())
LATHE, BACK = ((2, 1), (((3, 2),), False), (4, 4)), ((2, 1), (((3, 2),), True), (4, 3))
BENT = ((((2, 1), (3, 1)), ((4, 1), (5, 1))), (((20, 40),), False), (4, 2))
CUT, OPEN_CUT = ((2, 3), (0, 1), (6, 1), 2), ((1, 7), (0, 1), (6, 1), 2)
GOOD_CUTS = (((8, 3), (0, 1), (4, 1), 2), ((1, 1), (1, 1), (6, 1), 2))
SHOP, FINE = ((1, 4), (((30, 20),), False), (16, 4)), ((1, 4), (((30, 20),), False), (12, 4))
NEVER = ((1, 4), (((30, 20),), False), (16, 3))
BAND = ((FLUTE, 1), (LEFT, 2), (LEAD, 1))
FLUTES, RINGS = ((("flute", (0, 1)), 1), (("flute", (1, 2)), 1)), ((("ring", (0, 1)), 1),)
ALL, TURNS, SLID = ("all", ()), ("turns", ()), ("shifts", (((0, 1), (1, 2)),))
ALONG, STEPS = ((3, 1), (((0, 1), (1, 3)),)), ("none", (((0, 1), (1, 3)), ((1, 2), (1, 4))))
MOTION, MOTION_ON = ((1, 4), (1, 2)), ((-5, 3), (2, 3))

# name: calls, each as the tuple of its arguments in order
CALLS = {
    "is_train": [(TRAIN,), ((),)],
    "ratio_of": [(TRAIN,), (((), False),)],
    "lead_of": [((1, 4), TRAIN)],
    "train_for": [((1, 4), BOX, (-1, 16), 4), ((1, 4), BOX, (1, 4), 0), ((1, 4), BOX, (1, 28), 2)],
    "fewest_pairs": [((1, 4), BOX, (-1, 16)), ((1, 4), BOX, (1, 28))],
    "nearest_lead": [((1, 4), BOX, (1, 28), 2)],
    "is_line": [(LEAD,), (RING,), ("ring",)],
    "line_at": [((1, 2), ((3, 8), (1, 2)))],
    "goes_through": [(LEAD, ((5, 8), (0, 1))), (LEAD, ((1, 8), (0, 1))), (RING, ((1, 4), (1, 3)))],
    "angle_on": [(LEAD, (1, 4)), (RING, (1, 4)), (FLUTE, (1, 4))],
    "next_on": [(LEAD, (1, 4), (1, 1)), (RING, (1, 2), (0, 1)), (FLUTE, (1, 2), (3, 1))],
    "line_moved": [(LEFT, ((0, 1), (1, 4))), (RING, ((1, 4), (1, 2))), (FLUTE, ((1, 4), (1, 2)))],
    "line_mirrored": [(LEAD,), (RING,), (FLUTE,)],
    "ends_turned": [(LEAD, (1, 1)), (RING, (1, 1)), (FLUTE, (1, 1))],
    "lead_starts": [((1, 2), 2, (5, 8))],
    "lines_meet": [(LEAD, LEFT), (LEAD, LEAD), (RING, ("ring", (1, 2)))],
    "steepness": [(LEAD,), (RING,), (FLUTE,)],
    "line_through": [(((0, 1), (0, 1)), ((1, 1), (1, 2)), 1), (((0, 1), (0, 1)), ((0, 1), (0, 1)), 0),
                     (((0, 1), (1, 2)), ((1, 1), (1, 2)), 0), (((1, 1), (0, 1)), ((1, 1), (1, 2)), 0)],
    "turns_made": [(LEAD, (0, 1), (5, 4)), (RING, (0, 1), (5, 4)), (FLUTE, (0, 1), (5, 4))],
    "is_bar": [(ROD,), (None,)],
    "is_plain": [(ROD,), (TWICE,)],
    "plain_bar": [(ROD,), (TWICE,), (UNEVEN,), (BARE,)],
    "depth_at": [(ROD, ((2, 1), (1, 3))), (ROD, ((7, 1), (0, 1)))],
    "bar_with": [(UNEVEN, (THREAD, (0, 1), (6, 1), 2)), (BARE, (KEY, (0, 1), (7, 1), 1))],
    "bar_cut": [(ROD, (2, 1), (5, 1)), (ROD, (2, 1), (2, 1))],
    "bars_joined": [(ROD, UNEVEN), (BARE, BARE)],
    "band_of": [(ROD,), (BARE,)],
    "rows_of": [(BAND,), ((),)],
    "starts_of": [(BAND, (1, 2)), ((), (1, 2))],
    "pitch_of": [(BAND, (1, 2)), (BAND, (3, 1))],
    "alike_told": [(TWICE, UNEVEN), (ROD, ROD)],
    "telling_point": [(TWICE, UNEVEN), (ROD, BARE), (ROD, ROD), (BARE, SHORT)],
    "is_telling_point": [(TWICE, UNEVEN, ((1, 1), (0, 1))), (BARE, SHORT, ((1, 1), (0, 1)))],
    "is_lathe": [(LATHE,), (BENT,), (ROD,)],
    "closes_at": [(LATHE, (2, 1), (0, 1)), (BENT, (2, 1), (3, 1)), (LATHE, (1, 1), (0, 1))],
    "next_closing": [(LATHE, (1, 1), (0, 1)), (BENT, (1, 7), (11, 2))],
    "dial_shows": [(LATHE, (2, 1), (0, 1)), (BACK, (2, 1), (0, 1)), (LATHE, (1, 1), (0, 1))],
    "place_behind": [(LATHE, (0, 1), (0, 1), (1, 1)), (BENT, (2, 1), (3, 1), (8, 1)), (LATHE, (1, 1), (0, 1), (1, 1))],
    "run_out": [(LATHE, (2, 1), (0, 1), (6, 1)), (BENT, (2, 1), (3, 1), (8, 1)), (LATHE, (1, 1), (0, 1), (1, 1))],
    "cut_groove": [(LATHE, CUT), (LATHE, OPEN_CUT), (BENT, CUT)],
    "bar_after": [(LATHE, ROD, (CUT,)), (LATHE, ROD, ()), (LATHE, ROD, (OPEN_CUT,)), (LATHE, SHORT, (CUT,))],
    "start_for": [(LATHE, THREAD, (0, 1)), (LATHE, KEY, (0, 1)), (BENT, THREAD, (0, 1))],
    "unmade": [(LATHE, ROD), (LATHE, TWICE), (BENT, TWICE)],
    "cuts_for": [(LATHE, TWICE), (LATHE, UNEVEN), (LATHE, BARE), (LATHE, ROD), (BENT, BARE)],
    "are_cuts_for": [(LATHE, TWICE, GOOD_CUTS), (LATHE, TWICE, list(GOOD_CUTS)), (LATHE, BARE, ()), (BENT, BARE, ())],
    "same_cuts": [(LATHE, GOOD_CUTS, (CUT,)), (LATHE, (CUT,), ()), (LATHE, (CUT,), (OPEN_CUT,)), (BENT, (), ())],
    "closings_apart": [(SHOP,), (BENT,)],
    "how_many_lines": [(SHOP,), (BENT,)],
    "line_at_count": [(SHOP, 1), (SHOP, -10 ** 30), (BENT, 1)],
    "count_of_line": [(SHOP, ("lead", (3, 8), (1, 4))), (SHOP, KEY), (BENT, KEY)],
    "first_at_mark": [(SHOP, 3), (NEVER, 1), (SHOP, 4), (BENT, 4)],
    "lines_at_mark": [(SHOP, 2), (NEVER, 1), (SHOP, -1), (BENT, 4)],
    "safe_marks": [(SHOP,), (FINE,), (BENT,)],
    "marks_together": [(FINE, 1), (SHOP, 1), (FINE, 9), (BENT, 9)],
    "unlike_counts": [(SHOP, 1), (FINE, 1), (SHOP, 4), (BENT, 4)],
    "is_unlike_counts": [(SHOP, 0, (-16, 0)), (SHOP, 0, [-16, 0]), (SHOP, 4, None), (BENT, 4, None)],
    "dials_that_do": [(SHOP, 12), (SHOP, 1)],
    "dial_for_all": [((SHOP, LATHE),)],
    "wait_for_marks": [(FINE, (1, 3), (1, 2), (0, 3)), (NEVER, (0, 1), (0, 1), (1, 2)), (FINE, (0, 1), (0, 1), (4,))],
    "is_motion": [(MOTION,), (ALL,)],
    "is_motions": [(ALL,), (STEPS,), (MOTION,)],
    "motion_put": [(MOTION, MOTION_ON)],
    "motion_power": [(MOTION_ON, -7), (MOTION_ON, 10 ** 30), (MOTION_ON, 0)],
    "band_moved": [(BAND, MOTION), ((), MOTION)],
    "keeps_band": [(BAND, MOTION), (FLUTES, MOTION)],
    "unkept": [(BAND, MOTION_ON), (FLUTES, MOTION)],
    "motions_of": [(BAND,), (FLUTES,), (RINGS,), (FLUTES + RINGS,), ((),), (BAND[:1],)],
    "has_motion": [(ALL, MOTION), (TURNS, MOTION), (SLID, MOTION), (ALONG, MOTION), (STEPS, ((1, 2), (7, 12)))],
    "motions_by": [((MOTION_ON, MOTION),), ((),), ((MOTION,),)],
    "motions_both": [(ALL, SLID), (ALONG, TURNS), (ALONG, STEPS), (SLID, ALONG), (STEPS, SLID), (STEPS, STEPS)],
    "index_of": [(ALONG, ((3, 1), ())), (ALL, STEPS), (TURNS, SLID)],
    "lines_from": [(STEPS, FLUTE), (TURNS, RING), (ALONG, ("lead", (3, 1), (1, 2))), (ALL, LEAD)],
    "band_from": [(STEPS, FLUTES), (TURNS, RINGS), (ALL, BAND), (STEPS, ((("flute", (0, 1)), 1), (("flute", (1, 3)), 2)))],
}


def functions():
    """Each function of the interface with its name and the names of its parameters."""
    for file in INTERFACE:
        if file != "errors":
            module = importlib.import_module("screwshop." + file)
            for name in INTERFACE[file]:
                yield getattr(module, name), name, INTERFACE[file][name]


def outcome(function, *values, **named):
    """What a call returns, or the word raised with the error and what that keeps."""
    try:
        return function(*values, **named)
    except (LookupError, ValueError) as error:
        return ("raised", error.__class__.__name__, vars(error))


class Calls(unittest.TestCase):
    def test_each_function_is_called(self):
        for _, name, _ in functions():
            self.assertIn(name, CALLS)

    def test_by_position_by_name_and_with_lists(self):
        for function, name, parameters in functions():
            for call in CALLS[name]:
                values = dict(zip(parameters, call))
                with self.subTest(name=name, values=values):
                    self.check(function, values)

    def check(self, function, values):
        told = repr(outcome(function, *values.values()))
        lists = {own: values[own] if own == "thing" else listed(values[own]) for own in values}
        kept = copy.deepcopy(lists)
        self.assertEqual(repr(outcome(function, **lists)), told)
        self.assertEqual(repr(lists), repr(kept))
        backwards = {own: values[own] for own in reversed(list(values))}
        self.assertEqual(repr(outcome(function, **backwards)), told)

    def test_what_is_returned(self):
        for function, name, parameters in functions():
            for call in CALLS[name]:
                lists = [worth if own == "thing" else listed(worth) for own, worth in zip(parameters, call)]
                told, again = outcome(function, *lists), outcome(function, *lists)
                with self.subTest(name=name, values=lists):
                    self.assertEqual(isinstance(told, list), name in LISTS)
                    self.assertFalse(any(has_list(part) for part in told) if name in LISTS else has_list(told))
                    self.assertTrue(name not in LISTS or told is not again)


if __name__ == "__main__":
    unittest.main()
