"""[2]: each function with lists in place of tuples, by names; what it is handed, what it returns."""

import copy
import importlib
import unittest

from tests.support import INTERFACE, has_list, listed

LISTS = ["rows_of", "dials_that_do", "stays_of", "half_closings", "plate_stands", "crossings_between", "crossing_angles",
         "at_place", "meetings_on", "all_meetings", "lands_of", "goes_along", "neighbours_of", "corners_of", "land_rows",
         "crossing_depths", "join_rows", "replies"]

LEAD, LEFT, RING, FLUTE = ("lead", (1, 2), (1, 8)), ("lead", (-1, 2), (1, 8)), ("ring", (1, 4)), ("flute", (1, 2))
TRAIN, BOX = (((20, 40), (30, 60)), True), (20, 30, 40, 60)
THREAD, KEY, NECK = ("lead", (3, 1), (1, 1)), ("flute", (1, 4)), ("ring", (2, 1))
ROD = ((6, 1), ((KEY, (0, 1), (6, 1), 1), (THREAD, (0, 1), (6, 1), 2), (NECK, (2, 1), (2, 1), 3)))
TWICE = ((6, 1), ((THREAD, (0, 1), (4, 1), 2), (THREAD, (2, 1), (6, 1), 2)))
UNEVEN = ((6, 1), ((THREAD, (0, 1), (6, 1), 1), (THREAD, (2, 1), (4, 1), 2)))
BARE, SHORT = ((6, 1), ()), ((5, 1), ())
LATHE, BACK = ((2, 1), (((3, 2),), False), (4, 4)), ((2, 1), (((3, 2),), True), (4, 3))
BENT = ((((2, 1), (3, 1)), ((4, 1), (5, 1))), (((20, 40),), False), (4, 2))
CUT, OPEN_CUT = ((2, 3), (0, 1), (6, 1), 2), ((1, 7), (0, 1), (6, 1), 2)
GOOD_CUTS = (((8, 3), (0, 1), (4, 1), 2), ((1, 1), (1, 1), (6, 1), 2))
SHOP, FINE = ((1, 4), (((30, 20),), False), (16, 4)), ((1, 4), (((30, 20),), False), (12, 4))
NEVER = ((1, 4), (((30, 20),), False), (16, 3))
BAND = ((FLUTE, 1), (LEFT, 2), (LEAD, 1))
FLUTES, RINGS = ((("flute", (0, 1)), 1), (("flute", (1, 2)), 1)), ((("ring", (0, 1)), 1),)
ALL, TURNS, SLID = ("all", ()), ("turns", ()), ("shifts", (((0, 1), (1, 2)),))
ALONG, STEPS = ((3, 1), (((0, 1), (1, 3)),)), ("none", (((0, 1), (1, 3)), ((1, 2), (1, 4))))
MOTION, MOTION_ON = ((1, 4), (1, 2)), ((-5, 3), (2, 3))
O, HALF, ONE, TWO, THREE, FOUR = (0, 1), (1, 2), (1, 1), (2, 1), (3, 1), (4, 1)
STRAIGHT, LATE, SIDE = ("lead", ONE, O), ("lead", ONE, HALF), ("lead", (-1, 1), O)
PAIR, PAIR_ON = ((SIDE, 1), (STRAIGHT, 2)), ((SIDE, 1), (LATE, 2))
SCREW, PART = (THREE, ((STRAIGHT, O, THREE, 1),)), (THREE, ((STRAIGHT, O, THREE, 1), (LATE, O, TWO, 2)))
ONE_TOOTH, TWO_TEETH = (ONE, (O,), 1), (ONE, (O, HALF), 1)
BACKWARD, SIDE_BAR = ((-1, 1), (O,), 1), (THREE, ((SIDE, O, TWO, 3),))
SLIDE, STAND, BAD_STAND = ("slide", (-1, 1)), ((O, O), (ONE, O)), ((O, (1, 3)), (ONE, O))
TIED = (PART, ONE_TOOTH, SIDE_BAR, BACKWARD, SLIDE, STAND)
LOCKED = (PART, ONE_TOOTH, SIDE_BAR, BACKWARD, ("stiff",), ((ONE, O), (ONE, O)))
LOOSE = (PART, ONE_TOOTH, SIDE_BAR, BACKWARD, SLIDE, BAD_STAND)
LONG = ((800, 1), ((FLUTE, O, (800, 1), 1), (STRAIGHT, O, (800, 1), 2)))
BRAID = (ONE, ((SIDE, O, ONE, 2), (STRAIGHT, O, ONE, 1), (("ring", HALF), HALF, HALF, 3)))
LOW, HIGH = (O, HALF), (ONE, HALF)
REEL, LAME = (THREE, THREE, (6, 1), 2), (FOUR, THREE, (6, 1), 2)
REEL_BAR = ((3, 1), tuple(sorted((("lead", lead, phase), O, THREE, 2) for lead in (THREE, (-6, 1)) for phase in
                                 ((O, (3, 2)) if lead == THREE else (O, THREE)))))
SAW = ((("lead", (3, 2), O), THREE, (6, 1)), (("lead", (5, 2), ONE), (6, 1), (11, 1)))
CUT_UP = ((SAW[0][0], THREE, FOUR), (SAW[0][0], FOUR, (6, 1)), SAW[1])
SAW_ON, LONE = ((("lead", (3, 2), (3, 8)), (5, 1), (8, 1)), (("lead", (5, 2), (17, 8)), (8, 1), (13, 1))), SAW[:1]
LEFT_SAW, RING_NUT = ((("lead", (-3, 2), O), THREE, (6, 1)),), ((("lead", (3, 2), O), O, ONE),)
VICE, LOOSE_NEST = (((3, 2), (7, 5)), ((2, "round"),)), (((3, 2), (7, 5)), ())
SHUT, DIALS = (VICE[0], ((1, "along"), (2, "round"))), ((1, 25), (2, 20))
STOPS = (((-3, 1), (6, 1)), ((-7, 1), O))
HEAD, PLATE = (40, (15, 16, 18, 21)), (40, (15, 16))
NET, WIDE_NET = (ONE, (1, 4), 4), (ONE, (1, 400), 1)
SPIRAL, TURNED_KINDS = (ONE, ((STRAIGHT, O, ONE, 1),)), ("flute", ONE)
DRAWN = (NET, ((O, O), (ONE, O), (HALF, HALF), ((1, 4), (1, 4)), ((3, 4), (3, 4))))
SIGHT = (((O, O), (HALF, HALF), ((1, 4), (1, 4))), (((3, 4), (3, 4)),))
MANY_WAYS = (tuple(sorted(((own, 1), (1, own)) for own in range(2, 14))), ())
SO, WRONG = ("comes", (ONE, ONE, ONE, 1)), ("comes", (ONE, ONE, ONE, 2))
SHOP_CUT = ("cuts", ((1, 2), ((), False), (4, 4)), (ONE, ((("lead", HALF, O), O, ONE, 1),)))
JUDGED = [SO, WRONG, SHOP_CUT, ("goes",) + TIED, ("goes",) + LOCKED, ("led", SAW, SAW_ON), ("led", SAW, LONE), ("moves", VICE, 1), ("moves", SHUT, 2), ("divides", HEAD, 7),
          ("divides", PLATE, 7), ("lines", SIGHT, TURNED_KINDS), ("lines", SIGHT, (ONE,))]
REFUSED = [("loud", 1), ("comes",), ("comes", ONE, ONE), ("cuts", BENT, BARE), ("goes",) + LOOSE]
WORN, LIKE_WORN = ((TWO, THREE), (FOUR, (5, 1))), ((ONE, THREE), (ONE, THREE), (TWO, (5, 1)))

# name: calls, each as the tuple of its arguments in order
CALLS = {
    "is_train": [(TRAIN,), ((),)],
    "ratio_of": [(TRAIN,), (((), False),)],
    "lead_of": [((1, 4), TRAIN)],
    "train_for": [((1, 4), BOX, (-1, 16), 4), ((1, 4), BOX, (1, 4), 0), ((1, 4), BOX, (1, 28), 2)],
    "fewest_pairs": [((1, 4), BOX, (-1, 16)), ((1, 4), BOX, (1, 28))],
    "nearest_lead": [((1, 4), BOX, (1, 28), 2)],
    "is_line": [(LEAD,), (RING,), ("ring",)],
    "line_at": [((1, 2), ((3, 8), (1, 2)))],
    "goes_through": [(LEAD, ((5, 8), (0, 1))), (LEAD, ((1, 8), (0, 1))), (RING, ((1, 4), (1, 3)))],
    "angle_on": [(LEAD, (1, 4)), (RING, (1, 4)), (FLUTE, (1, 4))],
    "next_on": [(LEAD, (1, 4), (1, 1)), (RING, (1, 2), (0, 1)), (FLUTE, (1, 2), (3, 1))],
    "line_moved": [(LEFT, ((0, 1), (1, 4))), (RING, ((1, 4), (1, 2))), (FLUTE, ((1, 4), (1, 2)))],
    "line_mirrored": [(LEAD,), (RING,), (FLUTE,)],
    "ends_turned": [(LEAD, (1, 1)), (RING, (1, 1)), (FLUTE, (1, 1))],
    "lead_starts": [((1, 2), 2, (5, 8))],
    "lines_meet": [(LEAD, LEFT), (LEAD, LEAD), (RING, ("ring", (1, 2)))],
    "steepness": [(LEAD,), (RING,), (FLUTE,)],
    "line_through": [(((0, 1), (0, 1)), ((1, 1), (1, 2)), 1), (((0, 1), (0, 1)), ((0, 1), (0, 1)), 0),
                     (((0, 1), (1, 2)), ((1, 1), (1, 2)), 0), (((1, 1), (0, 1)), ((1, 1), (1, 2)), 0)],
    "turns_made": [(LEAD, (0, 1), (5, 4)), (RING, (0, 1), (5, 4)), (FLUTE, (0, 1), (5, 4))],
    "is_bar": [(ROD,), (None,)],
    "is_plain": [(ROD,), (TWICE,)],
    "plain_bar": [(ROD,), (TWICE,), (UNEVEN,), (BARE,)],
    "depth_at": [(ROD, ((2, 1), (1, 3))), (ROD, ((7, 1), (0, 1)))],
    "bar_with": [(UNEVEN, (THREAD, (0, 1), (6, 1), 2)), (BARE, (KEY, (0, 1), (7, 1), 1))],
    "bar_cut": [(ROD, (2, 1), (5, 1)), (ROD, (2, 1), (2, 1))],
    "bars_joined": [(ROD, UNEVEN), (BARE, BARE)],
    "band_of": [(ROD,), (BARE,)],
    "rows_of": [(BAND,), ((),)],
    "starts_of": [(BAND, (1, 2)), ((), (1, 2))],
    "pitch_of": [(BAND, (1, 2)), (BAND, (3, 1))],
    "alike_told": [(TWICE, UNEVEN), (ROD, ROD)],
    "telling_point": [(TWICE, UNEVEN), (ROD, BARE), (ROD, ROD), (BARE, SHORT)],
    "is_telling_point": [(TWICE, UNEVEN, ((1, 1), (0, 1))), (BARE, SHORT, ((1, 1), (0, 1)))],
    "is_lathe": [(LATHE,), (BENT,), (ROD,)],
    "closes_at": [(LATHE, (2, 1), (0, 1)), (BENT, (2, 1), (3, 1)), (LATHE, (1, 1), (0, 1))],
    "next_closing": [(LATHE, (1, 1), (0, 1)), (BENT, (1, 7), (11, 2))],
    "dial_shows": [(LATHE, (2, 1), (0, 1)), (BACK, (2, 1), (0, 1)), (LATHE, (1, 1), (0, 1))],
    "place_behind": [(LATHE, (0, 1), (0, 1), (1, 1)), (BENT, (2, 1), (3, 1), (8, 1)), (LATHE, (1, 1), (0, 1), (1, 1))],
    "run_out": [(LATHE, (2, 1), (0, 1), (6, 1)), (BENT, (2, 1), (3, 1), (8, 1)), (LATHE, (1, 1), (0, 1), (1, 1))],
    "cut_groove": [(LATHE, CUT), (LATHE, OPEN_CUT), (BENT, CUT)],
    "bar_after": [(LATHE, ROD, (CUT,)), (LATHE, ROD, ()), (LATHE, ROD, (OPEN_CUT,)), (LATHE, SHORT, (CUT,))],
    "start_for": [(LATHE, THREAD, (0, 1)), (LATHE, KEY, (0, 1)), (BENT, THREAD, (0, 1))],
    "unmade": [(LATHE, ROD), (LATHE, TWICE), (BENT, TWICE)],
    "cuts_for": [(LATHE, TWICE), (LATHE, UNEVEN), (LATHE, BARE), (LATHE, ROD), (BENT, BARE)],
    "are_cuts_for": [(LATHE, TWICE, GOOD_CUTS), (LATHE, TWICE, list(GOOD_CUTS)), (LATHE, BARE, ()), (BENT, BARE, ())],
    "same_cuts": [(LATHE, GOOD_CUTS, (CUT,)), (LATHE, (CUT,), ()), (LATHE, (CUT,), (OPEN_CUT,)), (BENT, (), ())],
    "closings_apart": [(SHOP,), (BENT,)],
    "how_many_lines": [(SHOP,), (BENT,)],
    "line_at_count": [(SHOP, 1), (SHOP, -10 ** 30), (BENT, 1)],
    "count_of_line": [(SHOP, ("lead", (3, 8), (1, 4))), (SHOP, KEY), (BENT, KEY)],
    "first_at_mark": [(SHOP, 3), (NEVER, 1), (SHOP, 4), (BENT, 4)],
    "lines_at_mark": [(SHOP, 2), (NEVER, 1), (SHOP, -1), (BENT, 4)],
    "safe_marks": [(SHOP,), (FINE,), (BENT,)],
    "marks_together": [(FINE, 1), (SHOP, 1), (FINE, 9), (BENT, 9)],
    "unlike_counts": [(SHOP, 1), (FINE, 1), (SHOP, 4), (BENT, 4)],
    "is_unlike_counts": [(SHOP, 0, (-16, 0)), (SHOP, 0, [-16, 0]), (SHOP, 4, None), (BENT, 4, None)],
    "dials_that_do": [(SHOP, 12), (SHOP, 1)],
    "dial_for_all": [((SHOP, LATHE),)],
    "wait_for_marks": [(FINE, (1, 3), (1, 2), (0, 3)), (NEVER, (0, 1), (0, 1), (1, 2)), (FINE, (0, 1), (0, 1), (4,))],
    "is_motion": [(MOTION,), (ALL,)],
    "is_motions": [(ALL,), (STEPS,), (MOTION,)],
    "motion_put": [(MOTION, MOTION_ON)],
    "motion_power": [(MOTION_ON, -7), (MOTION_ON, 10 ** 30), (MOTION_ON, 0)],
    "band_moved": [(BAND, MOTION), ((), MOTION)],
    "keeps_band": [(BAND, MOTION), (FLUTES, MOTION)],
    "unkept": [(BAND, MOTION_ON), (FLUTES, MOTION)],
    "motions_of": [(BAND,), (FLUTES,), (RINGS,), (FLUTES + RINGS,), ((),), (BAND[:1],)],
    "has_motion": [(ALL, MOTION), (TURNS, MOTION), (SLID, MOTION), (ALONG, MOTION), (STEPS, ((1, 2), (7, 12)))],
    "motions_by": [((MOTION_ON, MOTION),), ((),), ((MOTION,),)],
    "motions_both": [(ALL, SLID), (ALONG, TURNS), (ALONG, STEPS), (SLID, ALONG), (STEPS, SLID), (STEPS, STEPS)],
    "index_of": [(ALONG, ((3, 1), ())), (ALL, STEPS), (TURNS, SLID)],
    "lines_from": [(STEPS, FLUTE), (TURNS, RING), (ALONG, ("lead", (3, 1), (1, 2))), (ALL, LEAD)],
    "alike_bands": [(PAIR, PAIR_ON), (PAIR, BAND), ((), ())],
    "motion_between": [(PAIR, PAIR_ON), (RINGS, RINGS), (BAND, BAND), (PAIR, BAND)],
    "is_motion_between": [(PAIR, PAIR_ON, ((1, 4), (3, 4))), (PAIR, PAIR_ON, [[1, 4], [3, 4]])],
    "mirror_between": [(((STRAIGHT, 1),), ((SIDE, 1),)), (PAIR, BAND)],
    "is_mirror_between": [(((STRAIGHT, 1),), ((SIDE, 1),), (O, O)), (PAIR, PAIR, [O, O])],
    "turns_between": [(SCREW, (THREE, ((LATE, O, THREE, 1),))), (BARE, BARE), (BARE, SHORT), (ROD, ROD)],
    "ends_exchanged": [(PART,), (ROD,), (BARE,)],
    "bar_mirrored": [(PART,), (ROD,), (TWICE,)],
    "alike_bars": [(SCREW, (THREE, ((LATE, O, THREE, 1),))), (SCREW, PART)],
    "is_handed": [(SCREW,), (BARE,)],
    "parting_point": [(SCREW, PART, O), (BARE, SHORT, HALF), (ROD, SHORT, HALF)],
    "is_parting_point": [(SCREW, PART, O, (ONE, HALF)), (SCREW, PART, O, [ONE, HALF])],
    "is_nut": [(TWO_TEETH,), (list(TWO_TEETH),)],
    "is_on": [(PART, TWO_TEETH, (O, HALF)), (PART, TWO_TEETH, (THREE, O))],
    "why_off": [(PART, TWO_TEETH, (THREE, O)), (PART, TWO_TEETH, (O, O))],
    "ways_on": [(PART, TWO_TEETH, False), (PART, ONE_TOOTH, True)],
    "tooth_stretch": [(PART, TWO_TEETH, (O, O), 1), (PART, TWO_TEETH, (THREE, O), 1), (PART, TWO_TEETH, (O, O), 2)],
    "how_far": [(PART, TWO_TEETH, (O, O)), (PART, TWO_TEETH, (THREE, O))],
    "stops_at": [(PART, TWO_TEETH, (O, O), True), (PART, TWO_TEETH, (O, O), False), (PART, TWO_TEETH, (THREE, O), True)],
    "way_between": [(PART, ONE_TOOTH, (THREE, O), (HALF, HALF)), (PART, TWO_TEETH, (O, O), (O, HALF)),
                    (PART, TWO_TEETH, (O, O), (THREE, O))],
    "stays_of": [(PART, ONE_TOOTH), (PART, TWO_TEETH), (BARE, ONE_TOOTH)],
    "nut_at": [(PART, ONE, 1, (5, 2)), (PART, ONE, 3, O)],
    "nut_through": [(PART, ONE, 1), (PART, TWO, 1)],
    "nut_moved": [(TWO_TEETH, ((1, 4), HALF))],
    "nut_step": [(TWO_TEETH,), (ONE_TOOTH,)],
    "is_tie": [(SLIDE,), (("stiff",),), (["stiff"],)],
    "leads_fit": [(ONE_TOOTH, BACKWARD, SLIDE), (ONE_TOOTH, BACKWARD, ("stiff",))],
    "both_fine": [TIED[:4] + (STAND,), TIED[:4] + (BAD_STAND,)],
    "turned_stand": [(ONE_TOOTH, BACKWARD, SLIDE, STAND, (7, 3)), (ONE_TOOTH, BACKWARD, ("gear", TWO), STAND, (-7, 3))],
    "goes_by": [TIED + (HALF,), TIED + ((-9, 1),), LOOSE + (O,)],
    "tied_far": [TIED + (True,), TIED + (False,), LOOSE + (True,)],
    "stopped_by": [TIED + (True,), TIED + (False,), LOCKED + (True,), LOOSE + (True,)],
    "lock_of": [LOCKED, TIED, LOOSE],
    "is_lock": [LOCKED + (((1, 0), (1, 0)),), LOCKED + ([[1, 0], [1, 0]],), LOOSE + (None,)],
    "half_closings": [(PART, ONE_TOOTH, (1, 4)), (PART, TWO_TEETH, (-7, 2)), (LONG, ONE_TOOTH, O)],
    "plate_stands": [TIED[:4] + ((O, HALF),), (PART, ONE_TOOTH, PART, TWO_TEETH, (O, O))],
    "gap_of": [(STRAIGHT, SIDE), (STRAIGHT, LATE), (STRAIGHT, RING)],
    "how_many": [(STRAIGHT, SIDE, O, (10 ** 30, 1)), (RING, SIDE, O, ONE)],
    "crossings_between": [(STRAIGHT, SIDE, O, THREE), (RING, SIDE, O, THREE), (STRAIGHT, LATE, O, THREE), (STRAIGHT, SIDE, O, (10 ** 30, 1))],
    "nth_crossing": [(STRAIGHT, SIDE, HALF, 10 ** 30), (RING, SIDE, O, 0), (RING, SIDE, O, 1)],
    "crossing_angles": [(STRAIGHT, SIDE), (RING, SIDE), (STRAIGHT, LATE), (("lead", (1, 999), O), STRAIGHT)],
    "how_many_angles": [(STRAIGHT, SIDE), (STRAIGHT, LATE)],
    "three_meet": [(STRAIGHT, SIDE, FLUTE), (STRAIGHT, SIDE, ("ring", HALF)), (STRAIGHT, SIDE, LATE)],
    "at_place": [(ROD, TWO), (BARE, TWO)],
    "grooves_at": [(ROD, TWO, (1, 4)), (BARE, TWO, O)],
    "meetings_on": [(ROD, 0), (ROD, 3), (LONG, 0)],
    "next_meeting": [(ROD, 0, ONE), (ROD, 0, (6, 1)), (ROD, -1, O), (LONG, 0, O)],
    "all_meetings": [(ROD,), (BARE,), (LONG,)],
    "busiest": [(ROD,), (BARE,), (LONG,)],
    "lonely": [(ROD,), (LONG,), (SCREW,)],
    "lands_of": [(BRAID,), (BARE,), (LONG,)],
    "how_many_lands": [(BRAID,), (BARE,), (LONG,)],
    "is_mark": [(BRAID, LOW), (BRAID, list(LOW)), (LONG, None)],
    "land_at": [(BRAID, ((1, 4), HALF)), (BRAID, (O, O)), (BRAID, (TWO, O)), (LONG, (O, O))],
    "same_land": [(BRAID, LOW, HIGH), (BRAID, LOW, ((1, 8), HALF)), (BRAID, LOW, (TWO, O)), (LONG, (O, O), (O, O))],
    "area_of": [(BRAID, LOW), (BRAID, (O, O)), (LONG, LOW)],
    "span_of": [(BRAID, LOW), (BRAID, (O, O)), (LONG, LOW)],
    "goes_round": [(BRAID, LOW), (BARE, (O, O)), (BRAID, (O, O)), (LONG, LOW)],
    "goes_along": [(BARE,), (BRAID,), (SCREW,), (LONG,)],
    "neighbours_of": [(BRAID, LOW), (BARE, (O, O)), (BRAID, (O, O)), (LONG, LOW)],
    "parted_by": [(BRAID, LOW, LOW), (BRAID, LOW, ((1, 3), O)), (BRAID, LOW, (O, O)), (LONG, LOW, LOW)],
    "corners_of": [(BRAID, LOW), (BARE, (O, O)), (BRAID, (O, O)), (LONG, LOW)],
    "corner_book": [(BRAID,), (BARE,), (LONG,)],
    "lands_without": [(BRAID, 0), (BRAID, 2), (BRAID, 3), (LONG, 0)],
    "bar_at": [(BRAID, 2), (UNEVEN, 2), (BRAID, 9)],
    "worn_bar": [(BRAID, 1), (UNEVEN, 0), (BRAID, 9)],
    "deepened": [(BRAID, 1, 4), (UNEVEN, 0, 1), (BRAID, 3, 1)],
    "levels_of": [(BRAID,), (BARE,)],
    "land_rows": [(BRAID,), (BARE,), (LONG,)],
    "needless_grooves": [(TWICE,), (BRAID,), (((6, 1), (TWICE[1][0], (THREAD, ONE, THREE, 1))),)],
    "crossing_depths": [(BRAID,), (BARE,), (LONG,)],
    "least_crossed": [(BRAID, LOW, HIGH), (BRAID, LOW, (O, O)), (LONG, LOW, LOW)],
    "crossing_way": [(BRAID, LOW, HIGH), (BRAID, LOW, (TWO, O)), (LONG, LOW, LOW)],
    "is_crossing_way": [(BRAID, LOW, LOW, 0, (LOW,)), (BRAID, LOW, LOW, 0, [LOW]), (BRAID, LOW, (O, O), 3, None)],
    "join_rows": [(BRAID,), (BARE,), (LONG,)],
    "barring_depth": [(BRAID,), (BARE,), (LONG,)],
    "is_track": [(REEL,), (list(REEL),)],
    "beat_of": [(REEL,)],
    "turns_of": [(REEL,)],
    "bar_of_track": [(REEL, 2)],
    "track_of": [(REEL_BAR,), (BRAID,)],
    "start_after": [(REEL, 0, 10 ** 30 + 1), (REEL, 2, 0)],
    "pawl_at": [(REEL, 0, (5, 4)), (REEL, 1, (10 ** 30, 7)), (REEL, -1, O)],
    "groove_at": [(REEL, 0, (5, 4)), (REEL, 1, (10 ** 30, 7)), (REEL, -1, O)],
    "round_of": [(REEL,), (LAME,)],
    "starts_met": [(REEL, 0), (LAME, 1), (LAME, 2)],
    "comes_through": [(REEL,), (LAME,)],
    "divisor_paper": [(LAME,), (REEL,)],
    "is_divisor_paper": [(LAME, 2), (LAME, True)],
    "crossing_places": [(REEL,), (LAME,)],
    "turns_to": [(REEL, 0, ((3, 2), (1, 4))), (REEL, 0, (ONE, O)), (REEL, 2, (ONE, O))],
    "starts_through": [(LAME, ((3, 2), HALF)), (LAME, ((9, 1), HALF))],
    "pawls_meet": [(REEL, 0, 1, HALF), (REEL, 0, 0, HALF), (REEL, 2, 3, HALF), (REEL, 0, 3, HALF)],
    "least_length": [(THREE, (6, 1), 2, (9, 2))],
    "is_screw": [(WORN,), (THREE,), (list(WORN),)],
    "place_of": [(WORN, THREE), (THREE, (-1, 2))],
    "turns_at": [(WORN, (16, 1)), (THREE, (-1, 2))],
    "pitch_at": [(WORN, (6, 1)), (THREE, (-1, 2))],
    "plain_screw": [(WORN,), (LIKE_WORN,), (((ONE, THREE),),), (THREE,)],
    "screws_alike": [(WORN, LIKE_WORN), (WORN, THREE)],
    "parting_turn": [(WORN, THREE), (TWO, THREE), (WORN, LIKE_WORN)],
    "is_parting_turn": [(WORN, THREE, (5, 2)), (WORN, THREE, [5, 2])],
    "bends_of": [(WORN,), (THREE,)],
    "seen_from_turn": [(WORN, HALF), (WORN, (-1, 2)), (WORN, (9, 1)), (THREE, HALF)],
    "screw_through": [(((TWO, (6, 1)), (THREE, (11, 1))),), (((ONE, TWO), (ONE, THREE)),)],
    "closings": [(BENT, O, O, (16, 1)), (LATHE, HALF, (-3, 1), FOUR), (LATHE, O, O, (999, 1))],
    "worn_pieces": [(BENT, O, THREE, (11, 1)), (BENT, O, (11, 1), THREE), (LATHE, O, O, ONE), (BENT, O, FOUR, (11, 1))],
    "true_places": [(WORN, (5, 1), (20, 1)), (THREE, TWO, ONE)],
    "longest_true": [(WORN, (11, 1)), (THREE, ONE)],
    "error_at": [(WORN, THREE, (16, 1))],
    "greatest_error": [(WORN, FOUR, (16, 1))],
    "mean_pitch": [(WORN, THREE, (11, 1)), (THREE, ONE, O)],
    "are_pieces": [(SAW,), (list(SAW),)],
    "plain_pieces": [(CUT_UP,), (SAW,)],
    "pieces_moved": [(SAW, (TWO, (1, 4)))],
    "angle_there": [(SAW, FOUR), (SAW, TWO)],
    "shift_between": [(SAW, SAW_ON), (CUT_UP, SAW), (SAW, LONE)],
    "parting_at": [(SAW, LONE), (LEFT_SAW, LONE), (SAW, SAW_ON)],
    "is_parting_at": [(SAW, LONE, (5, 1)), (SAW, LONE, [5, 1])],
    "fits_by": [(SAW, RING_NUT, FOUR), (SAW, RING_NUT, (11, 2)), (SAW, SAW_ON, (-2, 1))],
    "nut_shifts": [(SAW, RING_NUT), (SAW, SAW_ON), (SAW, LEFT_SAW)],
    "nut_way": [(SAW, RING_NUT, FOUR), (SAW, RING_NUT, (7, 1))],
    "common_stretch": [(SAW, SAW_ON), (SAW, LEFT_SAW)],
    "wrong_stretches": [(SAW, (3, 2)), (SAW, ONE)],
    "places_alike": [(WORN, TWO, (20, 1), (7, 1)), (THREE, ONE, ONE, O)],
    "is_nest": [(VICE,), (list(VICE),)],
    "is_move": [(VICE, ((THREE, TWO), ((1, 5), O))), (VICE, [[THREE, TWO], [(1, 5), O]])],
    "freedom": [(VICE,), (SHUT,)],
    "plain_moves": [(VICE,), (LOOSE_NEST,), (SHUT,)],
    "move_with": [(LOOSE_NEST, ((1, TWO), (2, ONE))), (SHUT, ()), (VICE, ((2, ONE),)), (LOOSE_NEST, ())],
    "gain_of": [(VICE, 1, 2), (LOOSE_NEST, 1, 2)],
    "turn_for": [(VICE, 1, 2, (1, 4)), (VICE, 2, 1, O)],
    "finest_move": [(LOOSE_NEST, DIALS, 2), (SHUT, (), 1), (VICE, DIALS, 2)],
    "clicks_for": [(LOOSE_NEST, DIALS, 2, (1, 500)), (SHUT, (), 1, ONE), (VICE, DIALS, 2, O)],
    "are_clicks": [(LOOSE_NEST, DIALS, 2, (1, 500), (-17, 1)), (LOOSE_NEST, DIALS, 2, (1, 500), [-17, 1]), (VICE, DIALS, 2, O, None)],
    "free_move": [(VICE, 2), (SHUT, 2)],
    "stay_of": [(SHUT, 2), (VICE, 2)],
    "is_stay": [(SHUT, 1, (((2, 3), O), (ONE, O))), (SHUT, 1, [((2, 3), O), (ONE, O)])],
    "reach_of": [(VICE, STOPS, 1, True), (VICE, STOPS, 1, False), (LOOSE_NEST, STOPS, 1, True)],
    "is_plate": [(HEAD,), (list(HEAD),)],
    "circles_for": [(HEAD, 6), (PLATE, 7)],
    "holes_moved": [(HEAD, 7, 21), (PLATE, 7, 15)],
    "no_circles": [(PLATE, 9), (PLATE, 40)],
    "is_no_circles": [(PLATE, 9, (9, 9)), (PLATE, 9, [9, 9])],
    "compound_for": [(PLATE, 96), (PLATE, 7)],
    "is_compound": [(PLATE, 48, (15, 16, 5, 8)), (PLATE, 48, [15, 16, 5, 8])],
    "closes_round": [(PLATE, 15, 9), (PLATE, 14, 9)],
    "points_of": [(NET,), (WIDE_NET,)],
    "sheet_of": [(SPIRAL, (1, 4), 4), (SPIRAL, (1, 400), 1)],
    "bar_from_points": [(DRAWN, TURNED_KINDS), (DRAWN, ("flute",)), ((WIDE_NET, ()), ("ring",))],
    "lines_through": [(SIGHT, TURNED_KINDS), (((), ()), ("ring",))],
    "sure_lines": [(SIGHT, TURNED_KINDS), (SIGHT, (ONE,))],
    "least_lines": [(SIGHT, TURNED_KINDS), (SIGHT, (ONE,))],
    "is_lines": [(SIGHT, TURNED_KINDS, (("flute", O), ("flute", HALF), ("flute", (1, 4)))), (SIGHT, TURNED_KINDS, [("flute", O), ("flute", HALF), ("flute", (1, 4))])],
    "denial": [(SIGHT, (ONE,)), (SIGHT, TURNED_KINDS)],
    "is_denial": [(SIGHT, (ONE,), ((O, O), (((3, 4), (3, 4)),))), (SIGHT, (ONE,), [(O, O), (((3, 4), (3, 4)),)])],
    "next_point": [((SIGHT[0], ()), (ONE, "ring"), ((O, HALF), (HALF, O))), (SIGHT, (ONE,), ((O, O),)), (MANY_WAYS, ("ring", "flute"), ((O, O),))],
    "is_claim": [(SO,), (list(SO),), (("loud",),)],
    "is_so": [(claim,) for claim in JUDGED + REFUSED],
    "paper": [(claim,) for claim in JUDGED + REFUSED],
    "is_paper": [(SO, (0, 1)), (SO, [0, 1]), (REFUSED[0], None), (REFUSED[1], None), (REFUSED[3], None)],
    "shows": [(SO, (0, 1)), (SO, [0, 1]), (WRONG, 2), (REFUSED[0], None), (REFUSED[1], None), (REFUSED[3], None)],
    "not_so": [((SO, WRONG, WRONG),), ((),), ((SO, REFUSED[0]),), ((REFUSED[1], REFUSED[0]),)],
    "words_so": [((SO, WRONG, SHOP_CUT),), ((),), ((SO, REFUSED[0]),), ((REFUSED[1], REFUSED[0]),)],
    "bar_text": [(ROD,), (UNEVEN,), (BARE,)],
    "lathe_text": [(LATHE,), (BACK,), (BENT,)],
    "motions_text": [(ALL,), (ALONG,), (STEPS,)],
    "bar_read": [("bar 6\ngroove flute 1/4 0 6 1",), ("bar 6\ngroove flute 1/4 0 7 1",)],
    "lathe_read": [("screw 1/4\ntrain 3:2\ntumble yes\ndial 1 1",), ("screw 1 2 then 3 4\ntrain\ntumble no\ndial 1 1",), ("screw 1/4",)],
    "motions_read": [("free 1/4\nstep 1/8 0",), ("free",)],
    "is_request": [("spin 1/2",), ("spin 2/4",)],
    "replies": [(LATHE, (6, 1), "cut 6 2\nstand\ndial\nundo\ngrooves\ncarry 7"), (LATHE, (6, 1), "stand\nspin 2/4"), (LATHE, (6, 1), "")],
    "band_from": [(STEPS, FLUTES), (TURNS, RINGS), (ALL, BAND), (STEPS, ((("flute", (0, 1)), 1), (("flute", (1, 3)), 2)))],
}


def functions():
    """Each function of the interface with its name and the names of its parameters."""
    for file in INTERFACE:
        if file not in ("errors", "board"):
            module = importlib.import_module("screwshop." + file)
            for name in INTERFACE[file]:
                yield getattr(module, name), name, INTERFACE[file][name]


def outcome(function, *values, **named):
    """What a call returns, or the word raised with the error and what that keeps."""
    try:
        return function(*values, **named)
    except (LookupError, ValueError) as error:
        return ("raised", error.__class__.__name__, vars(error))


class Calls(unittest.TestCase):
    def test_each_function_is_called(self):
        for _, name, _ in functions():
            self.assertIn(name, CALLS)

    def test_by_position_by_name_and_with_lists(self):
        for function, name, parameters in functions():
            for call in CALLS[name]:
                values = dict(zip(parameters, call))
                with self.subTest(name=name, values=values):
                    self.check(function, values)

    def check(self, function, values):
        told = repr(outcome(function, *values.values()))
        lists = {own: values[own] if own == "thing" else listed(values[own]) for own in values}
        kept = copy.deepcopy(lists)
        self.assertEqual(repr(outcome(function, **lists)), told)
        self.assertEqual(repr(lists), repr(kept))
        backwards = {own: values[own] for own in reversed(list(values))}
        self.assertEqual(repr(outcome(function, **backwards)), told)

    def test_what_is_returned(self):
        for function, name, parameters in functions():
            for call in CALLS[name]:
                lists = [worth if own == "thing" else listed(worth) for own, worth in zip(parameters, call)]
                told, again = outcome(function, *lists), outcome(function, *lists)
                with self.subTest(name=name, values=lists):
                    if isinstance(told, tuple) and told[:1] == ("raised",):
                        continue
                    self.assertEqual(isinstance(told, list), name in LISTS)
                    self.assertTrue(name not in LISTS or told is not again)
                    # wear by wear join_rows tells a list
                    parts = [part for row in told for part in row] if name == "join_rows" else told
                    self.assertTrue(name != "join_rows" or all(isinstance(row, list) for row in told))
                    self.assertFalse(any(has_list(part) for part in parts) if name in LISTS else has_list(told))


if __name__ == "__main__":
    unittest.main()
