"""What several tests stand on: the names of the interface, strange things, lists in place of tuples."""

ERRORS = {
    "NoGroove": (LookupError, ["number"]), "NoTooth": (LookupError, ["number"]),
    "NoStart": (LookupError, ["number"]), "NoMark": (LookupError, ["number"]),
    "NoWord": (LookupError, ["word"]), "NoClosing": (LookupError, []), "NothingDone": (LookupError, []),
    "Unfit": (ValueError, []), "NoPaper": (ValueError, []), "TooMany": (ValueError, []),
    "BadLine": (ValueError, ["number"]),
}

# file by file, in the order of the document: each name with the names of its parameters
INTERFACE = {
    "errors": {name: ERRORS[name][1] for name in ERRORS},
    "wheels": {
        "is_train": ["thing"], "ratio_of": ["train"], "lead_of": ["pitch", "train"],
        "train_for": ["pitch", "box", "lead", "many"], "fewest_pairs": ["pitch", "box", "lead"],
        "nearest_lead": ["pitch", "box", "lead", "many"],
    },
    "lines": {
        "is_line": ["thing"], "line_at": ["lead", "point"], "goes_through": ["line", "point"],
        "angle_on": ["line", "place"], "next_on": ["line", "angle", "place"],
        "line_moved": ["line", "motion"], "line_mirrored": ["line"], "ends_turned": ["line", "length"],
        "lead_starts": ["lead", "many", "phase"], "lines_meet": ["one", "other"], "steepness": ["line"],
        "line_through": ["point", "far", "turns"], "turns_made": ["line", "place", "end"],
    },
    "bars": {
        "is_bar": ["thing"], "is_plain": ["bar"], "plain_bar": ["bar"], "depth_at": ["bar", "point"],
        "bar_with": ["bar", "groove"], "bar_cut": ["bar", "start", "end"], "bars_joined": ["one", "other"],
        "band_of": ["bar"], "rows_of": ["band"], "starts_of": ["band", "lead"],
        "pitch_of": ["band", "lead"], "alike_told": ["one", "other"], "telling_point": ["one", "other"],
        "is_telling_point": ["one", "other", "thing"],
    },
    "passes": {
        "is_lathe": ["thing"], "closes_at": ["lathe", "turned", "place"],
        "next_closing": ["lathe", "turned", "place"], "dial_shows": ["lathe", "turned", "place"],
        "place_behind": ["lathe", "turned", "place", "t"], "run_out": ["lathe", "turned", "place", "out"],
        "cut_groove": ["lathe", "cut"], "bar_after": ["lathe", "bar", "cuts"],
        "start_for": ["lathe", "line", "place"], "unmade": ["lathe", "bar"], "cuts_for": ["lathe", "bar"],
        "are_cuts_for": ["lathe", "bar", "thing"], "same_cuts": ["lathe", "one", "other"],
    },
    "dials": {
        "closings_apart": ["lathe"], "how_many_lines": ["lathe"], "line_at_count": ["lathe", "count"],
        "count_of_line": ["lathe", "line"], "first_at_mark": ["lathe", "mark"],
        "lines_at_mark": ["lathe", "mark"], "safe_marks": ["lathe"], "marks_together": ["lathe", "mark"],
        "unlike_counts": ["lathe", "mark"], "is_unlike_counts": ["lathe", "mark", "thing"],
        "dials_that_do": ["lathe", "most"], "dial_for_all": ["lathes"],
        "wait_for_marks": ["lathe", "turned", "place", "marks"],
    },
    "motions": {
        "is_motion": ["thing"], "is_motions": ["thing"], "motion_put": ["one", "other"],
        "motion_power": ["motion", "times"], "band_moved": ["band", "motion"],
        "keeps_band": ["band", "motion"], "unkept": ["band", "motion"], "motions_of": ["band"],
        "has_motion": ["motions", "motion"], "motions_by": ["steps"], "motions_both": ["near", "far"],
        "index_of": ["larger", "smaller"], "lines_from": ["motions", "line"],
        "band_from": ["motions", "band"],
    },
    "alikebars": {
        "alike_bands": ["band", "other"], "motion_between": ["band", "other"],
        "is_motion_between": ["band", "other", "thing"], "mirror_between": ["band", "other"],
        "is_mirror_between": ["band", "other", "thing"], "turns_between": ["bar", "other"],
        "ends_exchanged": ["bar"], "bar_mirrored": ["bar"], "alike_bars": ["bar", "other"],
        "is_handed": ["bar"], "parting_point": ["bar", "other", "angle"],
        "is_parting_point": ["bar", "other", "angle", "thing"],
    },
    "nuts": {
        "is_nut": ["thing"], "is_on": ["bar", "nut", "motion"], "why_off": ["bar", "nut", "motion"],
        "ways_on": ["bar", "nut", "far"], "tooth_stretch": ["bar", "nut", "motion", "number"],
        "how_far": ["bar", "nut", "motion"], "stops_at": ["bar", "nut", "motion", "far"],
        "way_between": ["bar", "nut", "one", "two"], "stays_of": ["bar", "nut"],
        "nut_at": ["bar", "lead", "height", "place"], "nut_through": ["bar", "lead", "height"],
        "nut_moved": ["nut", "motion"], "nut_step": ["nut"],
    },
    "tied": {
        "is_tie": ["thing"], "leads_fit": ["nut", "other", "tie"],
        "both_fine": ["bar", "nut", "far", "other", "stand"],
        "turned_stand": ["nut", "other", "tie", "stand", "amount"],
        "goes_by": ["bar", "nut", "far", "other", "tie", "stand", "amount"],
        "tied_far": ["bar", "nut", "far", "other", "tie", "stand", "onward"],
        "stopped_by": ["bar", "nut", "far", "other", "tie", "stand", "onward"],
        "lock_of": ["bar", "nut", "far", "other", "tie", "stand"],
        "is_lock": ["bar", "nut", "far", "other", "tie", "stand", "thing"],
        "half_closings": ["bar", "nut", "turn"], "plate_stands": ["bar", "nut", "far", "other", "apart"],
    },
    "crossings": {
        "gap_of": ["line", "other"], "how_many": ["line", "other", "start", "end"],
        "crossings_between": ["line", "other", "start", "end"],
        "nth_crossing": ["line", "other", "start", "count"], "crossing_angles": ["line", "other"],
        "how_many_angles": ["line", "other"], "three_meet": ["line", "other", "third"],
        "at_place": ["bar", "place"], "grooves_at": ["bar", "place", "angle"], "meetings_on": ["bar", "number"],
        "next_meeting": ["bar", "number", "place"], "all_meetings": ["bar"], "busiest": ["bar"],
        "lonely": ["bar"],
    },
    "lands": {
        "lands_of": ["bar"], "how_many_lands": ["bar"], "is_mark": ["bar", "thing"],
        "land_at": ["bar", "point"], "same_land": ["bar", "near", "far"], "area_of": ["bar", "mark"],
        "span_of": ["bar", "mark"], "goes_round": ["bar", "mark"], "goes_along": ["bar"],
        "neighbours_of": ["bar", "mark"], "parted_by": ["bar", "one", "other"], "corners_of": ["bar", "mark"],
        "corner_book": ["bar"], "lands_without": ["bar", "number"],
    },
    "depths": {
        "bar_at": ["bar", "depth"], "worn_bar": ["bar", "by"], "deepened": ["bar", "number", "by"],
        "levels_of": ["bar"], "land_rows": ["bar"], "needless_grooves": ["bar"], "crossing_depths": ["bar"],
        "least_crossed": ["bar", "near", "far"], "crossing_way": ["bar", "near", "far"],
        "is_crossing_way": ["bar", "near", "far", "depth", "thing"], "join_rows": ["bar"],
        "barring_depth": ["bar"],
    },
    "pawls": {
        "is_track": ["thing"], "beat_of": ["track"], "turns_of": ["track"], "bar_of_track": ["track", "depth"],
        "track_of": ["bar"], "start_after": ["track", "start", "many"], "pawl_at": ["track", "start", "turns"],
        "groove_at": ["track", "start", "turns"], "round_of": ["track"], "starts_met": ["track", "start"],
        "comes_through": ["track"], "divisor_paper": ["track"], "is_divisor_paper": ["track", "thing"],
        "crossing_places": ["track"], "turns_to": ["track", "start", "point"],
        "starts_through": ["track", "point"], "pawls_meet": ["track", "start", "other", "late"],
        "least_length": ["right", "left", "starts", "low"],
    },
    "worn": {
        "is_screw": ["thing"], "place_of": ["screw", "turns"], "turns_at": ["screw", "place"],
        "pitch_at": ["screw", "place"], "plain_screw": ["screw"], "screws_alike": ["one", "other"],
        "parting_turn": ["one", "other"], "is_parting_turn": ["one", "other", "thing"], "bends_of": ["screw"],
        "seen_from_turn": ["screw", "turns"], "screw_through": ["points"],
        "closings": ["lathe", "turned", "low", "high"], "worn_pieces": ["lathe", "turned", "place", "end"],
        "true_places": ["screw", "pitch", "bed"], "longest_true": ["screw", "bed"],
        "error_at": ["screw", "pitch", "place"], "greatest_error": ["screw", "pitch", "bed"],
        "mean_pitch": ["screw", "start", "end"],
    },
    "misfits": {
        "are_pieces": ["thing"], "plain_pieces": ["pieces"], "pieces_moved": ["pieces", "motion"],
        "angle_there": ["pieces", "place"], "shift_between": ["one", "other"], "parting_at": ["one", "other"],
        "is_parting_at": ["one", "other", "thing"], "fits_by": ["pieces", "nut", "shift"],
        "nut_shifts": ["pieces", "nut"], "nut_way": ["pieces", "nut", "shift"], "common_stretch": ["one", "other"],
        "wrong_stretches": ["pieces", "lead"], "places_alike": ["screw", "length", "bed", "place"],
    },
    "nested": {
        "is_nest": ["thing"], "is_move": ["nest", "thing"], "freedom": ["nest"], "plain_moves": ["nest"],
        "move_with": ["nest", "turned"], "gain_of": ["nest", "part", "far"],
        "turn_for": ["nest", "part", "far", "shift"], "finest_move": ["nest", "dials", "far"],
        "clicks_for": ["nest", "dials", "far", "shift"], "are_clicks": ["nest", "dials", "far", "shift", "thing"],
        "free_move": ["nest", "part"], "stay_of": ["nest", "part"], "is_stay": ["nest", "part", "thing"],
        "reach_of": ["nest", "stops", "part", "up"],
    },
    "dividing": {
        "is_plate": ["thing"], "circles_for": ["plate", "many"], "holes_moved": ["plate", "many", "circle"],
        "no_circles": ["plate", "many"], "is_no_circles": ["plate", "many", "thing"],
        "compound_for": ["plate", "many"], "is_compound": ["plate", "many", "thing"],
        "closes_round": ["plate", "circle", "holes"],
    },
    "sheets": {
        "points_of": ["net"], "sheet_of": ["bar", "apart", "parts"], "bar_from_points": ["sheet", "kinds"],
        "lines_through": ["view", "kinds"], "sure_lines": ["view", "kinds"], "least_lines": ["view", "kinds"],
        "is_lines": ["view", "kinds", "thing"], "denial": ["view", "kinds"], "is_denial": ["view", "kinds", "thing"],
        "next_point": ["view", "kinds", "points"],
    },
    "judge": {
        "is_claim": ["thing"], "is_so": ["claim"], "paper": ["claim"], "is_paper": ["claim", "thing"],
        "shows": ["claim", "thing"], "not_so": ["claims"], "words_so": ["claims"],
    },
    "texts": {
        "bar_text": ["bar"], "lathe_text": ["lathe"], "motions_text": ["motions"], "bar_read": ["text"],
        "lathe_read": ["text"], "motions_read": ["text"],
    },
    "board": {"Board": ["lathe", "length"]},
    "desk": {"is_request": ["line"], "replies": ["lathe", "length", "text"]},
}

# each method of a Board with the names of its parameters
BOARD = {
    "bar_now": [], "stand_now": [], "dial_now": [], "depth_here": [], "deeds": [], "do": ["deed"],
    "cut_to": ["end", "depth"], "undo": [], "redo": [],
}


def listed(value):
    """value with lists in place of tuples, at any depth."""
    if isinstance(value, (list, tuple)):
        return [listed(part) for part in value]
    return value


def has_list(value):
    """Whether a list stands anywhere in value."""
    if isinstance(value, list):
        return True
    return isinstance(value, tuple) and any(has_list(part) for part in value)


def deep(value, levels, kind):
    for _ in range(levels):
        value = kind([value])
    return value


# none of these is a TRAIN, a LINE, a BAR, a LATHE, a MOTION, MOTIONS TOLD, a POINT
STRANGE = [
    0, 1, -1, 10 ** 40, True, False, None, "", "ring", "flute", "lead", "all", "none", "ring flute", [], (), [[]],
    ((),), ([],), (0,), (1,), (0, 1), [0, 1], (1, 0), (1, 1, 1), (1, 1, 1, 1), (True, False), (None, None),
    ("all",), ("all", None), ("all", []), ("all", 0), ("none", ((),)), ("none", (0, 1)), (("all", ()),),
    ("ring",), ("ring", 0), ("ring", None), ("ring", "ring"), ("ring", ()), ("ring", (0,)), ("ring", (0, 1), (0, 1)),
    ("flute", 1), ("flute", (1, 1)), ("flute", (-1, 2)), ("lead",), ("lead", (1, 1)), ("lead", (1, 1), 0),
    ("lead", "lead", "lead"), ("lead", (1, 1), (0, 1), (0, 1)), ("all", (), ()), (None, ()), (0, ()), ("loud", ()),
    ((), 1), ((), 1, True), ([], ()), ((0, 1), ()), ((-1, 1), (), ()), (((1, 1),), None), (((1, 1),), 0),
    ([0, 1], [0, 1]), ((0, 1), [0, 1]), ((0, 1), (0, 1), (0, 1)), ((0, 1), (1, 1)), ((0, 1), None), "((0, 1), ())",
    deep(0, 12, list), deep(0, 12, tuple), deep((0, 1), 11, tuple), deep("ring", 12, tuple), deep((), 11, list),
]


def replaced(number):
    return [True, False, None, str(number), "", (number,), [number], ()]


def spoiled(thing, doubled=True):
    """Variants of thing with one part that is of a wrong kind; doubled if all its pairs of numbers are FRACTIONS."""
    if isinstance(thing, bool):
        return [0, 1, None, "yes", ()]
    if isinstance(thing, int):
        return replaced(thing)
    if isinstance(thing, str):
        return [thing + "s", "", None, 0, True, (thing,), [thing]]
    found = [list(thing), None, 0, True, "thing", (thing,) * 5]
    if len(thing) == 2 and all(isinstance(part, int) and not isinstance(part, bool) for part in thing):
        found.extend([(thing[0], 0), (thing[0],), thing + (1,)])
        if doubled:
            found.extend([(2 * thing[0], 2 * thing[1]), (-thing[0], -thing[1]), (3 * thing[0], 3 * thing[1])])
    for at, part in enumerate(thing):
        found.extend([thing[:at] + (own,) + thing[at + 1:] for own in spoiled(part, doubled)])
    return found
