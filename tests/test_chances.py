"""The calls chances, unbeaten, all_items and mean, one by one."""

import unittest

from tests.helper import GREAT, WORKED, all_items, ask, chances, listed, load, mean, unbeaten

TWO = load("measures m up;item x:1;item y:2;")


class Chances(unittest.TestCase):
    def test_right_ones(self):
        for q, numerators, told in (
            (1, [0, 0], [2, 0, 1, 0, 1]),
            (1, [1, 0], [2, 1, 1, 0, 1]),
            (1, [1, 1], [2, 0, 1, 1, 1]),
            (2, [1, 1], [2, 1, 4, 1, 2]),
            (100, [100, 0], [2, 1, 1, 0, 1]),
            (100, [99, 1], [2, 9801, 10000, 1, 100]),
            (6, [4, 3], [2, 1, 3, 1, 2]),
        ):
            self.assertEqual(ask(TWO, chances(q, numerators), all_items())[1:], [[1], told])

    def test_all_chances_are_1_at_first(self):
        self.assertEqual(ask(TWO, all_items()), [[1, 1, 2], [2, 0, 1, 1, 1]])

    def test_the_later_ones_hold(self):
        answers = ask(TWO, chances(2, [1, 1]), chances(3, [1, 1]), all_items())
        self.assertEqual(answers[3], [2, 2, 9, 1, 3])

    def refused(self, q, numerators):
        answers = ask(TWO, chances(7, [3, 2]), all_items(), chances(q, numerators), all_items(), mean())
        self.assertEqual(answers[3], [-4], (q, numerators))
        self.assertEqual(answers[2], [2, 15, 49, 2, 7])
        self.assertEqual(answers[4:], [answers[2], [1, 29, 49]])

    def test_refused_for_its_q(self):
        for q in (0, -1, 101, 102, GREAT, -GREAT):
            self.refused(q, [0, 0])
            self.refused(q, [1, 1])
            self.refused(q, [])

    def test_refused_for_how_many_numerators(self):
        self.refused(2, [])
        self.refused(2, [1])
        self.refused(2, [1, 1, 1])
        self.refused(2, [0] * 2000)

    def test_refused_for_a_numerator(self):
        for numerator in (-1, 5, GREAT, -GREAT):
            self.refused(4, [numerator, 1])
            self.refused(4, [1, numerator])
        self.refused(100, [101, 100])
        self.refused(1, [2, 1])

    def test_no_items_take_no_numerators(self):
        answers = ask(load("measures m up;"), chances(1, []), chances(100, []), chances(1, [1]), chances(0, []))
        self.assertEqual(answers[1:], [[1], [1], [-4], [-4]])

    def test_they_are_as_they_were_behind_a_refusal_at_the_first_chances_too(self):
        answers = ask(TWO, chances(2, [1, 3]), all_items())
        self.assertEqual(answers[1:], [[-4], [2, 0, 1, 1, 1]])


class NoSuchItem(unittest.TestCase):
    def test_below_0_and_from_the_number_of_items_on(self):
        for how_many in (0, 1, 5, 16):
            held = load(listed(["up"], [[k] for k in range(how_many)]))
            for item in (-1, how_many, how_many + 1, GREAT, -GREAT):
                self.assertEqual(ask(held, unbeaten(item))[1], [-2])

    def test_the_first_and_the_last_item(self):
        held = load(listed(["up"], [[k] for k in range(16)]))
        self.assertEqual(ask(held, unbeaten(0), unbeaten(15))[1:], [[1, 0, 1], [1, 1, 1]])


class Beating(unittest.TestCase):
    def halves(self, turns, rows):
        """All items' chances where each is there with a chance of 1 / 2."""
        told = ask(load(listed(turns, rows)), chances(2, [1] * len(rows)), all_items())[2]
        self.assertEqual(told[0], len(rows))
        return [tuple(told[k:k + 2]) for k in range(1, len(told), 2)]

    def test_up_and_down(self):
        self.assertEqual(self.halves(["up"], [[1], [2]]), [(1, 4), (1, 2)])
        self.assertEqual(self.halves(["down"], [[1], [2]]), [(1, 2), (1, 4)])

    def test_the_same_by_all_measures_do_not_beat_one_another(self):
        self.assertEqual(self.halves(["up"], [[1], [1], [1]]), [(1, 2)] * 3)
        self.assertEqual(self.halves(["up", "down"], [[3, 4], [3, 4]]), [(1, 2)] * 2)
        self.assertEqual(self.halves(["up"], [[1], [1], [2]]), [(1, 4), (1, 4), (1, 2)])

    def test_as_good_by_all_and_better_by_one(self):
        self.assertEqual(self.halves(["up", "down"], [[3, 4], [3, 5]]), [(1, 2), (1, 4)])
        self.assertEqual(self.halves(["up", "down"], [[3, 4], [4, 4]]), [(1, 4), (1, 2)])
        self.assertEqual(self.halves(["up"] * 4, [[1, 1, 1, 1], [1, 1, 1, 2]]), [(1, 4), (1, 2)])

    def test_better_by_one_and_worse_by_another(self):
        self.assertEqual(self.halves(["up", "down"], [[3, 4], [4, 5]]), [(1, 2), (1, 2)])
        self.assertEqual(self.halves(["up"] * 4, [[9, 9, 9, 1], [1, 1, 1, 2]]), [(1, 2), (1, 2)])

    def test_a_chain(self):
        for turns, rows in ((["up"], [[k] for k in range(16)]), (["down"], [[-k] for k in range(16)])):
            self.assertEqual(self.halves(turns, rows), [(1, 2 ** (16 - k)) for k in range(16)])


class UnbeatenAndMean(unittest.TestCase):
    def test_chances_0_and_1(self):
        held = load("measures m up;item x:1;item y:2;item z:3;")
        for numerators, told, on_the_mean in (
            ([0, 0, 0], [3, 0, 1, 0, 1, 0, 1], [1, 0, 1]),
            ([1, 1, 1], [3, 0, 1, 0, 1, 1, 1], [1, 1, 1]),
            ([1, 0, 0], [3, 1, 1, 0, 1, 0, 1], [1, 1, 1]),
            ([1, 1, 0], [3, 0, 1, 1, 1, 0, 1], [1, 1, 1]),
        ):
            answers = ask(held, chances(1, numerators), all_items(), mean())
            self.assertEqual(answers[2:], [told, on_the_mean])

    def test_no_items_at_all(self):
        answers = ask(load("measures m up, n down;"), all_items(), mean(), unbeaten(0))
        self.assertEqual(answers, [[1, 2, 0], [0], [1, 0, 1], [-2]])

    def test_items_that_do_not_beat_one_another_add_up(self):
        held = load(listed(["up"], [[5]] * 16))
        answers = ask(held, mean(), chances(8, [6] * 16), mean())
        self.assertEqual(answers[1], [1, 16, 1])
        self.assertEqual(answers[3], [1, 12, 1])

    def test_each_item_alone_is_told_as_among_all(self):
        answers = ask(load(WORKED), chances(60, [7, 11, 13, 17, 59]), all_items(), *[unbeaten(k) for k in range(5)])
        told = [number for answer in answers[3:] for number in answer[1:]]
        self.assertEqual(answers[2], [5] + told)

    def test_lowest_terms_of_fractions_greater_than_10_to_the_18(self):
        held = load(listed(["up"], [[k] for k in range(16)]))
        answers = ask(held, chances(100, [1] * 16), unbeaten(0), mean(), all_items())
        self.assertEqual(answers[2], [1, 99 ** 15, 100 ** 16])
        self.assertEqual(answers[3], [1, 100 ** 16 - 99 ** 16, 100 ** 16])
        self.assertEqual(answers[4][1:3], [99 ** 15, 100 ** 16])
        self.assertEqual(answers[4][31:], [1, 100])

    def test_great_fractions_are_shortened(self):
        held = load(listed(["up"], [[k] for k in range(16)]))
        answers = ask(held, chances(99, [9] * 16), unbeaten(0), mean())
        self.assertEqual(answers[2], [1, 10 ** 15, 11 ** 16])
        self.assertEqual(answers[3], [1, 11 ** 16 - 10 ** 16, 11 ** 16])
        answers = ask(held, chances(97, [1] * 16), unbeaten(0), chances(98, [49] * 16), unbeaten(0))
        self.assertEqual(answers[2], [1, 96 ** 15, 97 ** 16])
        self.assertEqual(answers[4], [1, 1, 2 ** 16])


if __name__ == "__main__":
    unittest.main()
