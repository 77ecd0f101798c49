"""The calls just_set, likely and counts, one by one."""

import unittest
from fractions import Fraction
from math import comb

from tests.helper import (
    GREAT, WORKED, alike, ask, ask_many, chances, counted, counts, just_set, likely, listed, load, mean,
)

EMPTY = load("measures m up, n down;")
TWO = load("measures m up;item x:1;item y:2;")
CHAIN = load("measures m up;item x:1;item y:2;item z:3;")


def chain(how_many):
    """Each item beats all ahead of it."""
    return load(listed(["up"], [[k] for k in range(how_many)]))


class JustSet(unittest.TestCase):
    def told(self, held, q, numerators, items):
        answers = ask(held, chances(q, numerators), just_set(items))
        self.assertEqual(answers[1], [1])
        return answers[2]

    def test_ordinary_ones(self):
        for items, told in (
            ([0, 1], [1, 1, 16]), ([0, 3], [1, 0, 1]), ([3], [1, 1, 32]), ([], [1, 1, 32]),
            ([0, 1, 2, 4], [1, 1, 16]), ([0, 2], [1, 1, 16]), ([1, 2, 4], [1, 1, 16]), ([2], [1, 1, 16]),
            ([1, 3], [1, 1, 32]), ([1, 3, 4], [1, 1, 32]), ([0, 1, 2, 3, 4], [1, 0, 1]),
        ):
            self.assertEqual(self.told(load(WORKED), 2, [1] * 5, items), told, items)

    def test_the_order_of_the_items_means_nothing(self):
        for items in ([0, 2, 4], [4, 2, 0], [2, 0, 4], [4, 0, 2]):
            self.assertEqual(self.told(load(WORKED), 3, [1, 2, 1, 2, 1], items), [1, 1, 81], items)

    def test_one_that_is_beaten_by_another_one_in_it(self):
        self.assertEqual(self.told(CHAIN, 2, [1, 1, 1], [0, 1]), [1, 0, 1])
        self.assertEqual(self.told(CHAIN, 2, [1, 1, 1], [2, 0]), [1, 0, 1])
        self.assertEqual(self.told(CHAIN, 2, [1, 1, 1], [0, 1, 2]), [1, 0, 1])

    def test_one_of_a_chain(self):
        self.assertEqual(self.told(CHAIN, 5, [1, 2, 3], [2]), [1, 3, 5])
        self.assertEqual(self.told(CHAIN, 5, [1, 2, 3], [1]), [1, 4, 25])
        self.assertEqual(self.told(CHAIN, 5, [1, 2, 3], [0]), [1, 6, 125])
        self.assertEqual(self.told(CHAIN, 5, [1, 2, 3], []), [1, 24, 125])

    def test_chances_of_0_and_of_1(self):
        for numerators, certain in (
            ([0, 0, 0], []), ([1, 0, 0], [0]), ([1, 1, 0], [1]), ([1, 1, 1], [2]), ([1, 0, 1], [2]),
        ):
            for items in ([], [0], [1], [2], [0, 1], [0, 2], [1, 2], [0, 1, 2]):
                told = [1, 1, 1] if items == certain else [1, 0, 1]
                self.assertEqual(self.told(CHAIN, 1, numerators, items), told, (numerators, items))

    def test_items_that_are_the_same_by_all_measures(self):
        self.assertEqual(self.told(alike(3), 4, [1, 2, 3], [0, 1, 2]), [1, 3, 32])
        self.assertEqual(self.told(alike(3), 4, [1, 2, 3], [1]), [1, 3, 32])
        self.assertEqual(self.told(alike(3), 4, [1, 2, 3], []), [1, 3, 32])
        self.assertEqual(self.told(alike(3), 4, [1, 2, 3], [2, 0]), [1, 3, 32])
        self.assertEqual(self.told(alike(3), 4, [1, 2, 3], [2]), [1, 9, 32])

    def test_the_empty_set(self):
        self.assertEqual(ask(CHAIN, just_set([]))[1], [1, 0, 1])
        self.assertEqual(self.told(CHAIN, 100, [1, 2, 3], []), [1, 470547, 500000])

    def test_no_item_at_all(self):
        self.assertEqual(ask(EMPTY, just_set([]), just_set([0]), just_set([-1]))[1:], [[1, 1, 1], [-2], [-2]])

    def test_one_item(self):
        held = load("measures m up;item x:1;")
        self.assertEqual(ask(held, just_set([0]), just_set([]))[1:], [[1, 1, 1], [1, 0, 1]])
        self.assertEqual(ask(held, chances(9, [6]), just_set([0]), just_set([]))[2:], [[1, 2, 3], [1, 1, 3]])

    def test_twelve_thirteen_and_sixteen_items_are_not_too_many(self):
        for how_many in (12, 13, 16):
            every_one = list(range(how_many))
            self.assertEqual(self.told(alike(how_many), 2, [1] * how_many, every_one), [1, 1, 2 ** how_many])
            self.assertEqual(self.told(alike(how_many), 3, [1] * how_many, []), [1, 2 ** how_many, 3 ** how_many])
            self.assertEqual(self.told(chain(how_many), 2, [1] * how_many, [how_many - 1]), [1, 1, 2])
            self.assertEqual(self.told(chain(how_many), 2, [1] * how_many, [0]), [1, 1, 2 ** how_many])
            self.assertEqual(self.told(chain(how_many), 2, [1] * how_many, every_one), [1, 0, 1])

    def test_fractions_greater_than_10_to_the_18(self):
        self.assertEqual(self.told(alike(16), 100, [99] * 16, list(range(16))), [1, 99 ** 16, 100 ** 16])
        self.assertEqual(self.told(alike(16), 100, [50] * 15 + [1], []), [1, 99, 100 * 2 ** 15])

    def test_no_such_item(self):
        for items in ([2], [-1], [0, 2], [2, 0], [0, 1, 2], [-1, 0], [GREAT], [-GREAT], [0, GREAT], [0, 1, -GREAT]):
            self.assertEqual(ask(TWO, just_set(items))[1], [-2], items)
        self.assertEqual(ask(alike(16), just_set([15]), just_set([16]))[1:], [[1, 0, 1], [-2]])

    def test_an_item_that_is_told_twice(self):
        for items in ([0, 0], [1, 1], [0, 1, 0], [1, 0, 1], [0, 1, 1], [0, 0, 0, 0]):
            self.assertEqual(ask(TWO, just_set(items))[1], [-2], items)

    def test_two_thousand_numbers(self):
        for items in ([0] * 2000, list(range(2000)), [GREAT] * 2000, [-GREAT] * 2000, [0, 1] * 1000):
            self.assertEqual(ask(TWO, just_set(items), just_set([1]))[1:], [[-2], [1, 1, 1]])


class Likely(unittest.TestCase):
    def told(self, held, q, numerators):
        answers = ask(held, chances(q, numerators), likely())
        self.assertEqual(answers[1], [1])
        return answers[2]

    def test_ordinary_ones(self):
        self.assertEqual(self.told(load(WORKED), 2, [1] * 5), [1, 1, 16, 4, 0, 1, 2, 4])
        self.assertEqual(self.told(load(WORKED), 10, [9, 1, 2, 9, 1]), [1, 9 ** 3, 1250, 1, 0])
        self.assertEqual(self.told(CHAIN, 10, [9, 4, 3]), [1, 189, 500, 1, 0])
        self.assertEqual(self.told(CHAIN, 10, [9, 6, 3]), [1, 21, 50, 1, 1])
        self.assertEqual(self.told(CHAIN, 10, [9, 6, 8]), [1, 4, 5, 1, 2])
        self.assertEqual(self.told(CHAIN, 10, [1, 1, 1]), [1, 729, 1000, 0])

    def test_of_alike_ones_the_one_that_has_the_first_item(self):
        # All sets of alike items with a chance of 1 / 2 are alike: all items come before fewer.
        for how_many in (1, 2, 3, 12):
            told = self.told(alike(how_many), 2, [1] * how_many)
            self.assertEqual(told, [1, 1, 2 ** how_many, how_many] + list(range(how_many)))
        # x alone, y alone and neither: 1 / 3 each.
        self.assertEqual(self.told(load("measures m up;item y:2;item x:1;"), 6, [2, 3]), [1, 1, 3, 1, 0])
        self.assertEqual(self.told(load("measures m up;item x:1;item y:2;"), 6, [3, 2]), [1, 1, 3, 1, 0])

    def test_of_alike_ones_the_earlier_item_outweighs_all_later_ones(self):
        # a is beaten by each other one; just a, and all the others, are as likely.
        held = load("measures m up, n up;item a:0,0;item b:1,2;item c:2,1;")
        self.assertEqual(self.told(held, 2, [2, 1, 1]), [1, 1, 4, 1, 0])
        # The same, but a is told last: b and c together come first.
        held = load("measures m up, n up;item b:1,2;item c:2,1;item a:0,0;")
        self.assertEqual(self.told(held, 2, [1, 1, 2]), [1, 1, 4, 2, 0, 1])
        # The two sets b, and c with d, are as likely: the one with b.
        held = load("measures m up, n up;item b:0,0;item c:1,2;item d:2,1;")
        self.assertEqual(ask(held, chances(2, [2, 1, 1]), just_set([0]), just_set([1, 2]), just_set([1]), likely())[2:],
                         [[1, 1, 4], [1, 1, 4], [1, 1, 4], [1, 1, 4, 1, 0]])

    def test_the_empty_set_comes_last(self):
        held = load("measures m up;item x:1;")
        self.assertEqual(self.told(held, 2, [1]), [1, 1, 2, 1, 0])
        self.assertEqual(self.told(held, 100, [50]), [1, 1, 2, 1, 0])
        self.assertEqual(self.told(held, 100, [49]), [1, 51, 100, 0])
        self.assertEqual(self.told(held, 100, [51]), [1, 51, 100, 1, 0])

    def test_chances_of_0_and_of_1(self):
        self.assertEqual(ask(CHAIN, likely())[1], [1, 1, 1, 1, 2])
        self.assertEqual(self.told(CHAIN, 1, [0, 0, 0]), [1, 1, 1, 0])
        self.assertEqual(self.told(CHAIN, 7, [7, 0, 0]), [1, 1, 1, 1, 0])
        self.assertEqual(self.told(alike(12), 1, [1, 0] * 6), [1, 1, 1, 6, 0, 2, 4, 6, 8, 10])

    def test_no_item_at_all(self):
        self.assertEqual(ask(EMPTY, likely(), chances(3, []), likely())[1:], [[1, 1, 1, 0], [1], [1, 1, 1, 0]])

    def test_twelve_items_and_more(self):
        self.assertEqual(self.told(alike(12), 100, [99] * 12), [1, 99 ** 12, 100 ** 12, 12] + list(range(12)))
        self.assertEqual(self.told(chain(12), 2, [1] * 12), [1, 1, 2, 1, 11])
        for how_many in (13, 14, 16):
            for held in (alike(how_many), chain(how_many)):
                self.assertEqual(self.told(held, 2, [1] * how_many), [-9])
                self.assertEqual(ask(held, likely())[1], [-9])


class Counts(unittest.TestCase):
    def told(self, held, q, numerators):
        answers = ask(held, chances(q, numerators), counts())
        self.assertEqual(answers[1], [1])
        return answers[2]

    def test_ordinary_ones(self):
        self.assertEqual(self.told(load(WORKED), 2, [1] * 5), [6, 1, 32, 7, 32, 13, 32, 9, 32, 1, 16, 0, 1])
        self.assertEqual(self.told(CHAIN, 10, [1, 1, 1]), [4, 729, 1000, 271, 1000, 0, 1, 0, 1])
        self.assertEqual(self.told(TWO, 3, [1, 1]), [3, 4, 9, 5, 9, 0, 1])

    def test_chances_of_0_and_of_1(self):
        self.assertEqual(ask(TWO, chances(1, [0, 1]), counts())[2], [3, 0, 1, 1, 1, 0, 1])
        self.assertEqual(ask(CHAIN, counts())[1], [4, 0, 1, 1, 1, 0, 1, 0, 1])
        self.assertEqual(self.told(CHAIN, 5, [0, 0, 0]), [4, 1, 1, 0, 1, 0, 1, 0, 1])
        self.assertEqual(self.told(alike(3), 5, [5, 5, 5]), [4, 0, 1, 0, 1, 0, 1, 1, 1])
        self.assertEqual(self.told(alike(3), 5, [5, 0, 5]), [4, 0, 1, 0, 1, 1, 1, 0, 1])

    def test_no_item_at_all_and_one_item(self):
        self.assertEqual(ask(EMPTY, counts())[1], [1, 1, 1])
        self.assertEqual(self.told(load("measures m up;item x:1;"), 100, [30]), [2, 7, 10, 3, 10])

    def test_items_that_are_the_same_by_all_measures(self):
        for how_many in (1, 2, 5, 12):
            often = counted(self.told(alike(how_many), 2, [1] * how_many))
            self.assertEqual(often, [Fraction(comb(how_many, k), 2 ** how_many) for k in range(how_many + 1)])
            often = counted(self.told(alike(how_many), 100, [1] * how_many))
            self.assertEqual(often, [Fraction(comb(how_many, k) * 99 ** (how_many - k), 100 ** how_many)
                                     for k in range(how_many + 1)])

    def test_twelve_items_and_more(self):
        told = self.told(chain(12), 2, [1] * 12)
        self.assertEqual(told, [13, 1, 4096, 4095, 4096] + [0, 1] * 11)
        for how_many in (13, 14, 16):
            for held in (alike(how_many), chain(how_many)):
                self.assertEqual(self.told(held, 2, [1] * how_many), [-9])
                self.assertEqual(ask(held, counts())[1], [-9])

    def test_too_many_items_are_refused_for_likely_and_counts_alone(self):
        answers = ask(alike(13), likely(), counts(), mean(), just_set([]), chances(2, [1] * 13), mean(), likely())
        self.assertEqual(answers[1:], [[-9], [-9], [1, 13, 1], [1, 0, 1], [1], [1, 13, 2], [-9]])


class SetsOfTwelve(unittest.TestCase):
    def test_the_sets_of_a_list_with_a_few_antichains_are_1_together(self):
        # Three chains of four items each: a set has at most one of each.
        rows = [[10 * group + step, -10 * group + step] for group in range(3) for step in range(4)]
        held = load(listed(["up", "up"], rows))
        sets = [[k for k in (first, second, third) if k >= 0]
                for first in (-1, 0, 1, 2, 3) for second in (-1, 4, 5, 6, 7) for third in (-1, 8, 9, 10, 11)]
        told = ask_many([held, chances(10, [3] * 12)], [just_set(items) for items in sets])
        self.assertEqual(sum(Fraction(*each[1:]) for each in told), 1)
        self.assertTrue(all(each[1] > 0 for each in told))


if __name__ == "__main__":
    unittest.main()
