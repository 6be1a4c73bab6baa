"""What several tests stand on: the names of the interface, strange things, lists in place of tuples."""

ERRORS = {
    "NoGroove": (LookupError, ["number"]), "NoTooth": (LookupError, ["number"]),
    "NoStart": (LookupError, ["number"]), "NoMark": (LookupError, ["number"]),
    "NoWord": (LookupError, ["word"]), "NoClosing": (LookupError, []), "NothingDone": (LookupError, []),
    "Unfit": (ValueError, []), "NoPaper": (ValueError, []), "TooMany": (ValueError, []),
    "BadLine": (ValueError, ["number"]),
}

# file by file, in the order of the document: each name with the names of its parameters
INTERFACE = {
    "errors": {name: ERRORS[name][1] for name in ERRORS},
    "wheels": {
        "is_train": ["thing"], "ratio_of": ["train"], "lead_of": ["pitch", "train"],
        "train_for": ["pitch", "box", "lead", "many"], "fewest_pairs": ["pitch", "box", "lead"],
        "nearest_lead": ["pitch", "box", "lead", "many"],
    },
    "lines": {
        "is_line": ["thing"], "line_at": ["lead", "point"], "goes_through": ["line", "point"],
        "angle_on": ["line", "place"], "next_on": ["line", "angle", "place"],
        "line_moved": ["line", "motion"], "line_mirrored": ["line"], "ends_turned": ["line", "length"],
        "lead_starts": ["lead", "many", "phase"], "lines_meet": ["one", "other"], "steepness": ["line"],
        "line_through": ["point", "far", "turns"], "turns_made": ["line", "place", "end"],
    },
}


def listed(value):
    """value with lists in place of tuples, at any depth."""
    if isinstance(value, (list, tuple)):
        return [listed(part) for part in value]
    return value


def has_list(value):
    """Whether a list stands anywhere in value."""
    if isinstance(value, list):
        return True
    return isinstance(value, tuple) and any(has_list(part) for part in value)


def deep(value, levels, kind):
    for _ in range(levels):
        value = kind([value])
    return value


# none of these is a TRAIN, a LINE, a BAR, a LATHE, a MOTION, MOTIONS TOLD, a POINT
STRANGE = [
    0, 1, -1, 10 ** 40, True, False, None, "", "ring", "flute", "lead", "all", "none", "ring flute", [], (), [[]],
    ((),), ([],), (0,), (1,), (0, 1), [0, 1], (1, 0), (1, 1, 1), (1, 1, 1, 1), (True, False), (None, None),
    ("all",), ("all", None), ("all", []), ("all", 0), ("none", ((),)), ("none", (0, 1)), (("all", ()),),
    ("ring",), ("ring", 0), ("ring", None), ("ring", "ring"), ("ring", ()), ("ring", (0,)), ("ring", (0, 1), (0, 1)),
    ("flute", 1), ("flute", (1, 1)), ("flute", (-1, 2)), ("lead",), ("lead", (1, 1)), ("lead", (1, 1), 0),
    ("lead", "lead", "lead"), ("lead", (1, 1), (0, 1), (0, 1)), ("all", (), ()), (None, ()), (0, ()), ("loud", ()),
    ((), True), ((), 1, True), ([], ()), ((0, 1), ()), ((-1, 1), (), ()), (((1, 1),), None), (((1, 1),), 0),
    ([0, 1], [0, 1]), ((0, 1), [0, 1]), ((0, 1), (0, 1), (0, 1)), ((0, 1), (1, 1)), ((0, 1), None), "((0, 1), ())",
    deep(0, 12, list), deep(0, 12, tuple), deep((0, 1), 11, tuple), deep("ring", 12, tuple), deep((), 11, list),
]


def replaced(number):
    return [True, False, None, str(number), "", (number,), [number], ()]


def spoiled(thing, doubled=True):
    """Variants of thing with one part that is of a wrong kind; doubled if all its pairs of numbers are FRACTIONS."""
    if isinstance(thing, bool):
        return [0, 1, None, "yes", ()]
    if isinstance(thing, int):
        return replaced(thing)
    if isinstance(thing, str):
        return [thing + "s", "", None, 0, True, (thing,), [thing]]
    found = [list(thing), None, 0, True, "thing", (thing,) * 5]
    if len(thing) == 2 and all(isinstance(part, int) and not isinstance(part, bool) for part in thing):
        found.extend([(thing[0], 0), (thing[0],), thing + (1,)])
        if doubled:
            found.extend([(2 * thing[0], 2 * thing[1]), (-thing[0], -thing[1]), (3 * thing[0], 3 * thing[1])])
    for at, part in enumerate(thing):
        found.extend([thing[:at] + (own,) + thing[at + 1:] for own in spoiled(part, doubled)])
    return found
