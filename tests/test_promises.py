"""Promises 1 to 5 on many lists, against all worlds one by one."""

import itertools
import unittest
from fractions import Fraction
from random import Random

from tests.helper import (
    all_items, ask, ask_many, beats, chance, chances, count_chances, counted, counts, given, item_chances, just_set,
    likeliest, likely, listed, load, mean, outcomes, some_lists, top, unbeaten,
)


def ahead(turns, rows, q, numerators):
    return [load(listed(turns, rows)), chances(q, numerators)]


def told_chances(turns, rows, q, numerators):
    """Each item's chance, as the program tells it."""
    loaded, taken, told = ask(*ahead(turns, rows, q, numerators), all_items())
    if loaded != [1, len(turns), len(rows)] or taken != [1] or told[0] != len(rows):
        raise AssertionError((loaded, taken, told))
    return counted(told)


def all_sets(how_many):
    """All sets in the document's order: one that has an item comes before one that has not."""
    for having in itertools.product((True, False), repeat=how_many):
        yield tuple(k for k, has in enumerate(having) if has)


def with_numerator(numerators, item, numerator):
    return numerators[:item] + [numerator] + numerators[item + 1:]


class AllWorlds(unittest.TestCase):
    def test_1_an_items_chance(self):
        for one in some_lists(20, 300):
            how_many = len(one[1])
            expected = item_chances(how_many, outcomes(*one))
            self.assertEqual(told_chances(*one), expected, one)
            alone = ask_many(ahead(*one), [unbeaten(k) for k in range(how_many)])
            self.assertEqual([chance(told) for told in alone], expected, one)

    def test_1_a_sets_chance(self):
        for one in some_lists(21, 120, most=5):
            sets = list(all_sets(len(one[1])))
            told = ask_many(ahead(*one), [just_set(items) for items in sets])
            expected = outcomes(*one)
            self.assertEqual([chance(each) for each in told], [expected.get(items, 0) for items in sets], one)

    def test_1_a_sets_chance_in_any_order_of_its_items(self):
        source = Random(1)
        for one in some_lists(22, 60, fewest=2):
            for items, expected in outcomes(*one).items():
                turned = source.sample(items, len(items))
                self.assertEqual(chance(ask(*ahead(*one), just_set(turned))[2]), expected, one)

    def test_1_sixteen_items(self):
        turns = ["up", "down"]
        source = Random(16)
        for q in (2, 100):
            rows = [[source.randint(0, 9), source.randint(0, 9)] for item in range(16)]
            numerators = [source.randint(0, q) for row in rows]
            one = (turns, rows, q, numerators)
            expected = outcomes(*one)
            each = item_chances(16, expected)
            self.assertEqual(told_chances(*one), each)
            self.assertEqual(chance(ask(*ahead(*one), mean())[2]), sum(each))
            sets = source.sample(sorted(expected), min(60, len(expected)))
            sets.extend([(), tuple(range(16)), (0,), (15,), (0, 15)])
            told = ask_many(ahead(*one), [just_set(items) for items in sets])
            self.assertEqual([chance(answer) for answer in told], [expected.get(items, 0) for items in sets])
            order = sorted(range(16), key=lambda k: (-each[k], k))
            self.assertEqual(ask(*ahead(*one), top(16))[2], [16] + order)


class Together(unittest.TestCase):
    def test_2_all_sets_are_1(self):
        for one in some_lists(23, 100, most=5):
            told = ask_many(ahead(*one), [just_set(items) for items in all_sets(len(one[1]))])
            self.assertEqual(sum(chance(each) for each in told), 1, one)

    def test_2_all_numbers_are_1_and_the_mean_is_both(self):
        for one in some_lists(24, 300, most=7):
            numbers, middle = ask(*ahead(*one), counts(), mean())[2:]
            often = counted(numbers)
            self.assertEqual(sum(often), 1, one)
            self.assertEqual(chance(middle), sum(k * each for k, each in enumerate(often)), one)
            self.assertEqual(chance(middle), sum(told_chances(*one)), one)
            self.assertEqual(often, count_chances(len(one[1]), outcomes(*one)), one)

    def test_2_twelve_items(self):
        for one in some_lists(25, 12, fewest=12, most=12):
            numbers, middle = ask(*ahead(*one), counts(), mean())[2:]
            expected = outcomes(*one)
            self.assertEqual(counted(numbers), count_chances(12, expected), one)
            self.assertEqual(sum(counted(numbers)), 1)
            self.assertEqual(chance(middle), sum(item_chances(12, expected)), one)


class Likeliest(unittest.TestCase):
    def told(self, one):
        """The chance and the set."""
        answer = ask(*ahead(*one), likely())[2]
        self.assertEqual(answer[3], len(answer) - 4)
        return chance(answer[:3]), tuple(answer[4:])

    def test_3_no_set_is_likelier_and_of_alike_ones_the_first_is_told(self):
        for one in some_lists(26, 120, most=5):
            greatest, best = self.told(one)
            sets = list(all_sets(len(one[1])))
            each = [chance(told) for told in ask_many(ahead(*one), [just_set(items) for items in sets])]
            self.assertEqual(greatest, max(each), one)
            self.assertEqual(best, sets[each.index(greatest)], one)

    def test_3_against_all_worlds(self):
        for one in some_lists(27, 300, most=7):
            self.assertEqual(self.told(one), likeliest(len(one[1]), outcomes(*one)), one)

    def test_3_twelve_items(self):
        for one in some_lists(28, 12, fewest=12, most=12):
            self.assertEqual(self.told(one), likeliest(len(one[1]), outcomes(*one)), one)


class Known(unittest.TestCase):
    def test_4_there_and_away_each_as_often_as_it_is_so(self):
        for one in some_lists(29, 120):
            turns, rows, q, numerators = one
            each = told_chances(*one)
            for j, numerator in enumerate(numerators):
                known = ask_many(ahead(*one), [given(i, j, v) for i in range(len(rows)) for v in (0, 1)])
                for i in range(len(rows)):
                    together = Fraction(0)
                    for v, often in ((0, Fraction(q - numerator, q)), (1, Fraction(numerator, q))):
                        told = known[2 * i + v]
                        if often == 0:
                            self.assertEqual(told, [-8], (one, i, j, v))
                        else:
                            together += often * chance(told)
                    self.assertEqual(together, each[i], (one, i, j))

    def test_4_each_of_them_against_all_worlds(self):
        for one in some_lists(30, 80):
            turns, rows, q, numerators = one
            for j, numerator in enumerate(numerators):
                for v in (0, 1):
                    told = ask_many(ahead(*one), [given(i, j, v) for i in range(len(rows))])
                    if numerator == (1 - v) * q:
                        self.assertEqual(told, [[-8]] * len(rows))
                    else:
                        sets = outcomes(turns, rows, q, with_numerator(numerators, j, v * q))
                        self.assertEqual([chance(answer) for answer in told], item_chances(len(rows), sets), one)

    def test_4_the_mean_too(self):
        for one in some_lists(31, 60, fewest=1):
            turns, rows, q, numerators = one
            for j, numerator in enumerate(numerators):
                there = sum(told_chances(turns, rows, q, with_numerator(numerators, j, q)))
                away = sum(told_chances(turns, rows, q, with_numerator(numerators, j, 0)))
                often = Fraction(numerator, q)
                self.assertEqual(chance(ask(*ahead(*one), mean())[2]), often * there + (1 - often) * away)


class Likelier(unittest.TestCase):
    def test_5_an_item_that_becomes_likelier_to_be_there(self):
        for turns, rows, q, numerators in some_lists(32, 150):
            before = told_chances(turns, rows, q, numerators)
            for j, numerator in enumerate(numerators):
                for more in {min(q, numerator + 1), q}:
                    after = told_chances(turns, rows, q, with_numerator(numerators, j, more))
                    self.assertGreaterEqual(after[j], before[j])
                    for k, row in enumerate(rows):
                        if k != j and beats(turns, rows[j], row):
                            self.assertLessEqual(after[k], before[k])
                        elif k != j:
                            self.assertEqual(after[k], before[k])

    def test_5_an_item_that_is_known_to_be_there_or_away(self):
        for one in some_lists(33, 100, fewest=1):
            turns, rows, q, numerators = one
            before = told_chances(*one)
            for j, numerator in enumerate(numerators):
                for i, row in enumerate(rows):
                    away, there = ask(*ahead(*one), given(i, j, 0), given(i, j, 1))[2:]
                    chance_away = before[i] if away == [-8] else chance(away)
                    chance_there = before[i] if there == [-8] else chance(there)
                    if i == j:
                        self.assertTrue(chance_away <= before[i] <= chance_there, one)
                    elif beats(turns, rows[j], row):
                        self.assertTrue(chance_there <= before[i] <= chance_away, one)
                    else:
                        self.assertTrue(chance_there == before[i] == chance_away, one)


if __name__ == "__main__":
    unittest.main()
