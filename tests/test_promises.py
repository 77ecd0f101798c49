"""Promises 1, 2, 4 and 5 on many lists, against all worlds one by one."""

import itertools
import unittest
from fractions import Fraction
from random import Random

from tests.helper import all_items, ask, chances, listed, load, mean, unbeaten


def beats(turns, one, other):
    good = [a >= b if turn == "up" else a <= b for turn, a, b in zip(turns, one, other)]
    return all(good) and one != other


def world_chances(turns, rows, odds):
    """Each item's chance to be unbeaten, and the mean, from all worlds."""
    sums = [Fraction(0)] * len(rows)
    on_the_mean = Fraction(0)
    for world in itertools.product((False, True), repeat=len(rows)):
        weight = Fraction(1)
        for there, chance in zip(world, odds):
            weight *= chance if there else 1 - chance
        best = [
            k for k, row in enumerate(rows)
            if world[k] and not any(world[j] and beats(turns, rows[j], row) for j in range(len(rows)))
        ]
        for k in best:
            sums[k] += weight
        on_the_mean += weight * len(best)
    return sums, on_the_mean


def told_chances(turns, rows, q, numerators):
    """Each item's chance and the mean, as the program tells them."""
    loaded, taken, told, middle = ask(load(listed(turns, rows)), chances(q, numerators), all_items(), mean())
    if loaded[0] != 1 or taken != [1] or told[0] != len(rows) or middle[0] != 1:
        raise AssertionError((loaded, taken, told, middle))
    pairs = [told[1:][k:k + 2] for k in range(0, 2 * len(rows), 2)]
    for above, below in pairs + [middle[1:]]:
        fraction = Fraction(above, below)
        if [fraction.numerator, fraction.denominator] != [above, below]:
            raise AssertionError(f"not in lowest terms: {above} / {below}")
    return [Fraction(*pair) for pair in pairs], Fraction(*middle[1:])


def some_lists(how_many):
    """Lists from a fixed seed; few values, so that many are alike."""
    source = Random(20)
    for turn in range(how_many):
        turns = [source.choice(["up", "down"]) for measure in range(source.randint(1, 4))]
        rows = [[source.randint(-2, 2) for turn in turns] for item in range(source.randint(0, 6))]
        q = source.choice([1, 2, 3, 10, 60, 97, 100])
        numerators = [source.choice([0, q, source.randint(0, q), source.randint(0, q)]) for row in rows]
        yield turns, rows, q, numerators


class Promises(unittest.TestCase):
    def test_1_and_2_all_worlds_together(self):
        for turns, rows, q, numerators in some_lists(300):
            odds = [Fraction(numerator, q) for numerator in numerators]
            each, middle = told_chances(turns, rows, q, numerators)
            self.assertEqual((each, middle), world_chances(turns, rows, odds))
            self.assertEqual(middle, sum(each))

    def test_4_there_and_away_each_as_often_as_it_is_so(self):
        for turns, rows, q, numerators in some_lists(150):
            each, middle = told_chances(turns, rows, q, numerators)
            for j, numerator in enumerate(numerators):
                there = told_chances(turns, rows, q, numerators[:j] + [q] + numerators[j + 1:])
                away = told_chances(turns, rows, q, numerators[:j] + [0] + numerators[j + 1:])
                often = Fraction(numerator, q)
                self.assertEqual(each, [often * a + (1 - often) * b for a, b in zip(there[0], away[0])])
                self.assertEqual(middle, often * there[1] + (1 - often) * away[1])

    def test_5_an_item_that_becomes_likelier_to_be_there(self):
        for turns, rows, q, numerators in some_lists(150):
            before = told_chances(turns, rows, q, numerators)[0]
            for j, numerator in enumerate(numerators):
                for more in {min(q, numerator + 1), q}:
                    after = told_chances(turns, rows, q, numerators[:j] + [more] + numerators[j + 1:])[0]
                    self.assertGreaterEqual(after[j], before[j])
                    for k, row in enumerate(rows):
                        if k != j and beats(turns, rows[j], row):
                            self.assertLessEqual(after[k], before[k])
                        elif k != j:
                            self.assertEqual(after[k], before[k])

    def test_sixteen_items_against_the_product(self):
        source = Random(16)
        for turn in range(20):
            turns = ["up", "down"]
            rows = [[source.randint(0, 9), source.randint(0, 9)] for item in range(16)]
            numerators = [source.randint(0, 100) for row in rows]
            expected = []
            for row, numerator in zip(rows, numerators):
                chance = Fraction(numerator, 100)
                for other, against in zip(rows, numerators):
                    if beats(turns, other, row):
                        chance *= 1 - Fraction(against, 100)
                expected.append(chance)
            each, middle = told_chances(turns, rows, 100, numerators)
            self.assertEqual((each, middle), (expected, sum(expected)))
            alone = ask(load(listed(turns, rows)), chances(100, numerators), *[unbeaten(k) for k in range(16)])
            self.assertEqual([Fraction(*answer[1:]) for answer in alone[2:]], expected)


if __name__ == "__main__":
    unittest.main()
