"""[4]: wheels."""

import unittest
from fractions import Fraction
from itertools import permutations

from screwshop.errors import NoPaper
from screwshop.wheels import fewest_pairs, is_train, lead_of, nearest_lead, ratio_of, train_for
from tests.support import STRANGE, spoiled

QUARTER = (1, 4)
BOXES = [(), (20,), (40, 20), (20, 30, 40, 60), (20, 20, 40, 40), (60, 20, 40, 30, 20), (24, 24, 24),
         (20, 20, 40, 40, 80, 80), (7, 11, 13), (1, 2, 3, 4, 5, 6)]
LEADS = [(1, 4), (-1, 4), (1, 8), (-1, 16), (3, 16), (1, 2), (-3, 8), (5, 12), (1, 28), (1, 1), (7, 44), (-1000, 1)]


def pair(value):
    return (value.numerator, value.denominator)


def by_hand(box, many):
    """All TRAINS without a tumble of box of at most many pairs, with their ratios."""
    trains = {}
    for count in range(many + 1):
        for wheels in permutations(box, 2 * count):
            pairs = tuple(sorted(zip(wheels[::2], wheels[1::2])))
            ratio = Fraction(1)
            for driver, driven in pairs:
                ratio = ratio * driver / driven
            trains[pairs] = ratio
    return trains


class Trains(unittest.TestCase):
    def test_what_a_train_is(self):
        for thing in (((), True), ((), False), (((1, 1),), False), (((200, 1), (1, 200)), True),
                      (((3, 2), (3, 2), (2, 3), (1, 9), (8, 8)), False), (((10 ** 40, 1),), True)):
            self.assertIs(is_train(thing), True, thing)

    def test_what_no_train_is(self):
        for thing in STRANGE + [(((20, 0),), False), (((0, 20),), False), (((-1, 1),), False), (((20, 40, 60),), True),
                                (((20,),), True), (((20, True),), True), (((True, 20),), True), (((20, 40),), 1),
                                (((20, 40),), 0), (((20, 40),), "True"), ((20, 40), True), ([], True), [(), True],
                                ((), True, True), (([20, 40],), True), ("", True), ((("20", 40),), True)]:
            self.assertIs(is_train(thing), False, thing)
        for train in ((((20, 40), (30, 60)), False), ((), True), (((1, 1),), True)):
            for thing in spoiled(train, doubled=False):
                self.assertIs(is_train(thing), False, thing)

    def test_ratio(self):
        self.assertEqual(ratio_of(((), False)), (1, 1))
        self.assertEqual(ratio_of(((), True)), (-1, 1))
        self.assertEqual(ratio_of((((30, 20),), False)), (3, 2))
        self.assertEqual(ratio_of((((30, 20), (20, 30)), True)), (-1, 1))
        self.assertEqual(ratio_of((((20, 40), (30, 60), (5, 7), (1, 200)), True)), (-1, 1120))
        self.assertEqual(ratio_of((((199, 200),) * 4, False)), (199 ** 4, 200 ** 4))

    def test_one_behind_the_other(self):
        first, second = (((30, 20), (7, 9)), True), (((9, 14),), True)
        self.assertEqual(ratio_of((first[0] + second[0], False)), (3, 4))

    def test_lead(self):
        self.assertEqual(lead_of(QUARTER, ((), False)), (1, 4))
        self.assertEqual(lead_of((2, 3), (((9, 8),), True)), (-3, 4))


class Boxes(unittest.TestCase):
    def test_train_for_is_the_least_of_the_fewest_pairs(self):
        for box in BOXES:
            for many in range(5):
                trains = by_hand(box, many)
                for lead in LEADS:
                    with self.subTest(box=box, many=many, lead=lead):
                        self.check_train(box, many, lead, trains)

    def check_train(self, box, many, lead, trains):
        wanted = Fraction(*lead) / Fraction(*QUARTER)
        fits = [pairs for pairs in trains if trains[pairs] == abs(wanted)]
        if not fits:
            self.assertRaises(NoPaper, train_for, QUARTER, box, lead, many)
        else:
            fewest = min(len(pairs) for pairs in fits)
            least = min(pairs for pairs in fits if len(pairs) == fewest)
            self.assertEqual(train_for(QUARTER, box, lead, many), (least, wanted < 0))
        if many == 4:
            self.assertEqual(fewest_pairs(QUARTER, box, lead), fewest if fits else None)

    def test_nearest_lead(self):
        for box in BOXES:
            for many in range(5):
                leads = [Fraction(*QUARTER) * ratio for ratio in by_hand(box, many).values()]
                leads = sorted(set(leads + [-lead for lead in leads]))
                for lead in LEADS + [(3, 32), (5, 32), (0 - 3, 32), (1, 1000)]:
                    gap, cut = min((abs(own - Fraction(*lead)), own) for own in leads)
                    with self.subTest(box=box, many=many, lead=lead):
                        self.assertEqual(nearest_lead(QUARTER, box, lead, many), (pair(cut), pair(gap)))

    def test_of_two_as_near_the_one_below(self):
        self.assertEqual(nearest_lead((1, 1), (20, 40), (3, 4), 1), ((1, 2), (1, 4)))
        self.assertEqual(nearest_lead((1, 1), (20, 40), (3, 2), 1), ((1, 1), (1, 2)))
        self.assertEqual(nearest_lead((1, 1), (20, 40), (-3, 2), 1), ((-2, 1), (1, 2)))

    def test_two_like_wheels_are_two(self):
        self.assertEqual(train_for((1, 1), (20, 20, 40, 40), (1, 4), 2), (((20, 40), (20, 40)), False))
        self.assertEqual(train_for((1, 1), (20, 20, 40, 40), (-1, 1), 4), ((), True))
        self.assertRaises(NoPaper, train_for, (1, 1), (20, 40, 40), (1, 4), 2)

    def test_eight_wheels(self):
        box = (20, 25, 30, 35, 40, 45, 50, 55)
        lead = pair(Fraction(20 * 25 * 30 * 55, 35 * 40 * 45 * 50))
        self.assertEqual(fewest_pairs((1, 1), box, lead), 4)
        self.assertEqual(train_for((1, 1), box, lead, 4),
                         (((20, 35), (25, 40), (30, 45), (55, 50)), False))
        self.assertIsNone(fewest_pairs((1, 1), box, (1, 113)))

    def test_fewest_pairs_are_four_at_most(self):
        five = (2, 1, 3, 1, 5, 1, 7, 1, 11, 1)
        self.assertIsNone(fewest_pairs((1, 1), five, (2310, 1)))
        self.assertEqual(fewest_pairs((1, 1), five, (1, 1155)), 4)


if __name__ == "__main__":
    unittest.main()
