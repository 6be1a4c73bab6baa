"""[2]: each function with lists in place of tuples, by names; what it is handed, what it returns."""

import copy
import importlib
import unittest

from tests.support import INTERFACE, has_list, listed

LISTS = ["rows_of", "dials_that_do"]

LEAD, LEFT, RING, FLUTE = ("lead", (1, 2), (1, 8)), ("lead", (-1, 2), (1, 8)), ("ring", (1, 4)), ("flute", (1, 2))
TRAIN, BOX = (((20, 40), (30, 60)), True), (20, 30, 40, 60)

# name: calls, each as the tuple of its arguments in order
CALLS = {
    "is_train": [(TRAIN,), ((),)],
    "ratio_of": [(TRAIN,), (((), False),)],
    "lead_of": [((1, 4), TRAIN)],
    "train_for": [((1, 4), BOX, (-1, 16), 4), ((1, 4), BOX, (1, 4), 0), ((1, 4), BOX, (1, 28), 2)],
    "fewest_pairs": [((1, 4), BOX, (-1, 16)), ((1, 4), BOX, (1, 28))],
    "nearest_lead": [((1, 4), BOX, (1, 28), 2)],
    "is_line": [(LEAD,), (RING,), ("ring",)],
    "line_at": [((1, 2), ((3, 8), (1, 2)))],
    "goes_through": [(LEAD, ((5, 8), (0, 1))), (LEAD, ((1, 8), (0, 1))), (RING, ((1, 4), (1, 3)))],
    "angle_on": [(LEAD, (1, 4)), (RING, (1, 4)), (FLUTE, (1, 4))],
    "next_on": [(LEAD, (1, 4), (1, 1)), (RING, (1, 2), (0, 1)), (FLUTE, (1, 2), (3, 1))],
    "line_moved": [(LEFT, ((0, 1), (1, 4))), (RING, ((1, 4), (1, 2))), (FLUTE, ((1, 4), (1, 2)))],
    "line_mirrored": [(LEAD,), (RING,), (FLUTE,)],
    "ends_turned": [(LEAD, (1, 1)), (RING, (1, 1)), (FLUTE, (1, 1))],
    "lead_starts": [((1, 2), 2, (5, 8))],
    "lines_meet": [(LEAD, LEFT), (LEAD, LEAD), (RING, ("ring", (1, 2)))],
    "steepness": [(LEAD,), (RING,), (FLUTE,)],
    "line_through": [(((0, 1), (0, 1)), ((1, 1), (1, 2)), 1), (((0, 1), (0, 1)), ((0, 1), (0, 1)), 0),
                     (((0, 1), (1, 2)), ((1, 1), (1, 2)), 0), (((1, 1), (0, 1)), ((1, 1), (1, 2)), 0)],
    "turns_made": [(LEAD, (0, 1), (5, 4)), (RING, (0, 1), (5, 4)), (FLUTE, (0, 1), (5, 4))],
}


def functions():
    """Each function of the interface with its name and the names of its parameters."""
    for file in INTERFACE:
        if file != "errors":
            module = importlib.import_module("screwshop." + file)
            for name in INTERFACE[file]:
                yield getattr(module, name), name, INTERFACE[file][name]


def outcome(function, *values, **named):
    """What a call returns, or the word raised with the error and what that keeps."""
    try:
        return function(*values, **named)
    except (LookupError, ValueError) as error:
        return ("raised", error.__class__.__name__, vars(error))


class Calls(unittest.TestCase):
    def test_each_function_is_called(self):
        for _, name, _ in functions():
            self.assertIn(name, CALLS)

    def test_by_position_by_name_and_with_lists(self):
        for function, name, parameters in functions():
            for call in CALLS[name]:
                values = dict(zip(parameters, call))
                with self.subTest(name=name, values=values):
                    self.check(function, values)

    def check(self, function, values):
        told = repr(outcome(function, *values.values()))
        lists = {own: values[own] if own == "thing" else listed(values[own]) for own in values}
        kept = copy.deepcopy(lists)
        self.assertEqual(repr(outcome(function, **lists)), told)
        self.assertEqual(repr(lists), repr(kept))
        backwards = {own: values[own] for own in reversed(list(values))}
        self.assertEqual(repr(outcome(function, **backwards)), told)

    def test_what_is_returned(self):
        for function, name, parameters in functions():
            for call in CALLS[name]:
                lists = [worth if own == "thing" else listed(worth) for own, worth in zip(parameters, call)]
                told, again = outcome(function, *lists), outcome(function, *lists)
                with self.subTest(name=name, values=lists):
                    self.assertEqual(isinstance(told, list), name in LISTS)
                    self.assertFalse(any(has_list(part) for part in told) if name in LISTS else has_list(told))
                    self.assertTrue(name not in LISTS or told is not again)


if __name__ == "__main__":
    unittest.main()
