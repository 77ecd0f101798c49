"""The calls top and given, one by one."""

import unittest

from tests.helper import GREAT, WORKED, alike, all_items, ask, chances, given, listed, load, mean, top, unbeaten

EMPTY = load("measures m up;")
TWO = load("measures m up;item x:1;item y:2;")
CHAIN = load("measures m up;item x:1;item y:2;item z:3;")


class Top(unittest.TestCase):
    def told(self, held, q, numerators, k):
        answers = ask(held, chances(q, numerators), top(k))
        self.assertEqual(answers[1], [1])
        return answers[2]

    def test_ordinary_ones(self):
        self.assertEqual(self.told(load(WORKED), 2, [1] * 5, 2), [2, 0, 1])
        self.assertEqual(self.told(load(WORKED), 2, [1] * 5, 5), [5, 0, 1, 2, 4, 3])
        self.assertEqual(self.told(alike(4), 10, [3, 9, 1, 5], 4), [4, 1, 3, 0, 2])
        self.assertEqual(self.told(alike(4), 10, [3, 9, 1, 5], 3), [3, 1, 3, 0])
        self.assertEqual(self.told(alike(4), 10, [3, 9, 1, 5], 1), [1, 1])

    def test_the_chance_to_be_unbeaten_counts_not_the_chance_to_be_there(self):
        # x is there oftener than y, but y beats it.
        self.assertEqual(self.told(TWO, 10, [9, 6], 2), [2, 1, 0])
        self.assertEqual(self.told(TWO, 10, [9, 4], 2), [2, 0, 1])
        self.assertEqual(self.told(CHAIN, 10, [10, 5, 5], 3), [3, 2, 0, 1])

    def test_of_alike_chances_the_lesser_number(self):
        self.assertEqual(self.told(alike(5), 10, [3, 7, 3, 7, 3], 5), [5, 1, 3, 0, 2, 4])
        self.assertEqual(self.told(alike(5), 10, [3, 7, 3, 7, 3], 4), [4, 1, 3, 0, 2])
        self.assertEqual(self.told(TWO, 2, [2, 1], 2), [2, 0, 1])
        self.assertEqual(self.told(load("measures m down;item x:1;item y:2;"), 2, [1, 2], 2), [2, 0, 1])
        self.assertEqual(self.told(alike(16), 3, [1] * 16, 16), [16] + list(range(16)))

    def test_chances_are_compared_exactly(self):
        # Two chains; item 0 and item 1 stand lowest in them, each below seven others.
        rows = [[10, 0], [0, 10]] + [[10 + k, k] for k in range(1, 8)] + [[k, 10 + k] for k in range(1, 8)]
        held = load(listed(["up", "up"], rows))
        against = [3, 93, 97, 71, 89, 41, 67]
        for turned in (against, against[::-1], against[3:] + against[:3]):
            numerators = [50, 50] + against + turned
            first, second = ask(held, chances(100, numerators), unbeaten(0), unbeaten(1))[2:]
            self.assertEqual(first, second)
            order = self.told(held, 100, numerators, 16)[1:]
            self.assertEqual(order.index(1), order.index(0) + 1)
            numerators[1] = 51
            order = self.told(held, 100, numerators, 16)[1:]
            self.assertEqual(order.index(0), order.index(1) + 1)

    def test_chances_far_below_1(self):
        rows = [[k] for k in range(16)]
        held = load(listed(["up"], rows))
        self.assertEqual(self.told(held, 100, [1] + [99] * 15, 16), [16] + list(range(15, -1, -1)))
        held = load(listed(["down"], rows))
        self.assertEqual(self.told(held, 100, [99] * 14 + [0, 1], 16), [16] + list(range(14)) + [15, 14])

    def test_chances_of_0_and_of_1(self):
        self.assertEqual(ask(CHAIN, top(3))[1], [3, 2, 0, 1])
        self.assertEqual(self.told(CHAIN, 1, [0, 0, 0], 3), [3, 0, 1, 2])
        self.assertEqual(self.told(CHAIN, 9, [9, 9, 0], 2), [2, 1, 0])

    def test_none_at_all(self):
        self.assertEqual(ask(TWO, top(0))[1], [0])
        self.assertEqual(ask(EMPTY, top(0), top(1), top(16), top(17))[1:], [[0], [0], [0], [-3]])

    def test_all_if_there_are_fewer(self):
        for k in (2, 3, 15, 16):
            self.assertEqual(ask(TWO, top(k))[1], [2, 1, 0])
        self.assertEqual(ask(load("measures m up;item x:1;"), top(16))[1], [1, 0])

    def test_k_is_not_from_0_to_16(self):
        for how_many in (0, 1, 13, 16):
            for k in (-1, -2, 17, 18, GREAT, -GREAT):
                self.assertEqual(ask(alike(how_many), top(k))[1], [-3], k)

    def test_many_items(self):
        for how_many in (12, 13, 16):
            numerators = list(range(how_many))
            every_one = list(range(how_many - 1, -1, -1))
            for k in (0, 1, 11, 12, 13, 16):
                told = self.told(alike(how_many), 16, numerators, k)
                self.assertEqual(told, [min(k, how_many)] + every_one[:k])


class Given(unittest.TestCase):
    def told(self, held, q, numerators, i, j, v):
        answers = ask(held, chances(q, numerators), given(i, j, v))
        self.assertEqual(answers[1], [1])
        return answers[2]

    def test_ordinary_ones(self):
        for i, j, v, told in (
            (3, 0, 1, [1, 0, 1]), (3, 0, 0, [1, 1, 4]), (0, 0, 1, [1, 1, 1]), (3, 2, 0, [1, 1, 4]),
            (3, 1, 0, [1, 1, 8]), (3, 1, 1, [1, 1, 8]), (0, 3, 1, [1, 1, 2]), (0, 3, 0, [1, 1, 2]),
            (3, 3, 1, [1, 1, 4]), (1, 4, 1, [1, 1, 2]),
        ):
            self.assertEqual(self.told(load(WORKED), 2, [1] * 5, i, j, v), told, (i, j, v))
        self.assertEqual(self.told(TWO, 10, [4, 3], 0, 1, 0), [1, 2, 5])
        self.assertEqual(self.told(TWO, 10, [4, 3], 0, 1, 1), [1, 0, 1])
        self.assertEqual(self.told(TWO, 10, [4, 3], 1, 0, 1), [1, 3, 10])

    def test_i_and_j_are_the_same_item(self):
        self.assertEqual(self.told(TWO, 10, [4, 3], 0, 0, 1), [1, 7, 10])
        self.assertEqual(self.told(TWO, 10, [4, 3], 0, 0, 0), [1, 0, 1])
        self.assertEqual(self.told(TWO, 10, [4, 3], 1, 1, 1), [1, 1, 1])
        self.assertEqual(self.told(TWO, 10, [4, 3], 1, 1, 0), [1, 0, 1])
        self.assertEqual(self.told(TWO, 10, [0, 3], 0, 0, 0), [1, 0, 1])
        self.assertEqual(self.told(TWO, 10, [0, 3], 0, 0, 1), [-8])
        self.assertEqual(self.told(TWO, 10, [10, 3], 0, 0, 1), [1, 7, 10])
        self.assertEqual(self.told(TWO, 10, [10, 3], 0, 0, 0), [-8])

    def test_j_is_never_so(self):
        for q in (1, 2, 100):
            self.assertEqual(self.told(TWO, q, [1, 0], 0, 1, 1), [-8])
            self.assertEqual(self.told(TWO, q, [1, 0], 0, 1, 0), [1, 1, q])
            self.assertEqual(self.told(TWO, q, [1, q], 0, 1, 0), [-8])
            self.assertEqual(self.told(TWO, q, [1, q], 0, 1, 1), [1, 0, 1])
        # All chances are 1 at first.
        self.assertEqual(ask(TWO, given(0, 1, 0), given(1, 0, 0), given(1, 0, 1))[1:], [[-8], [-8], [1, 1, 1]])

    def test_i_is_never_so_is_no_refusal(self):
        self.assertEqual(self.told(TWO, 2, [0, 1], 0, 1, 1), [1, 0, 1])
        self.assertEqual(self.told(TWO, 2, [0, 1], 0, 1, 0), [1, 0, 1])
        self.assertEqual(self.told(TWO, 2, [2, 1], 0, 1, 0), [1, 1, 1])

    def test_no_such_item(self):
        for wrong in (-1, 2, 3, GREAT, -GREAT):
            for right in (0, 1, wrong):
                for v in (0, 1):
                    answers = ask(TWO, chances(2, [1, 1]), given(wrong, right, v), given(right, wrong, v))
                    self.assertEqual(answers[2:], [[-2], [-2]], (wrong, right, v))
        self.assertEqual(ask(EMPTY, given(0, 0, 1))[1], [-2])
        self.assertEqual(ask(alike(16), given(15, 14, 1), given(16, 15, 1), given(15, 16, 1))[1:],
                         [[1, 1, 1], [-2], [-2]])

    def test_v_is_neither_1_nor_0(self):
        for v in (2, -1, 3, 10, GREAT, -GREAT):
            answers = ask(TWO, chances(2, [1, 1]), given(0, 1, v), given(1, 1, v))
            self.assertEqual(answers[2:], [[-5], [-5]], v)

    def test_the_refusals_in_their_order(self):
        never = [TWO, chances(1, [0, 1])]
        self.assertEqual(ask(*never, given(2, 0, 2), given(0, 2, 2), given(-1, -1, GREAT))[2:], [[-2], [-2], [-2]])
        self.assertEqual(ask(*never, given(2, 0, 1), given(-1, 1, 0))[2:], [[-2], [-2]])
        self.assertEqual(ask(*never, given(1, 0, 2), given(1, 0, -1), given(0, 1, 2))[2:], [[-5], [-5], [-5]])
        self.assertEqual(ask(*never, given(1, 0, 1), given(0, 1, 0))[2:], [[-8], [-8]])

    def test_one_that_is_beaten_by_another_one_still(self):
        self.assertEqual(self.told(CHAIN, 10, [5, 5, 3], 0, 1, 0), [1, 7, 20])
        self.assertEqual(self.told(CHAIN, 10, [5, 5, 3], 0, 2, 0), [1, 1, 4])
        self.assertEqual(self.told(CHAIN, 10, [5, 5, 3], 1, 0, 1), [1, 7, 20])

    def test_items_that_are_the_same_by_all_measures(self):
        for v in (0, 1):
            self.assertEqual(self.told(alike(3), 10, [5, 4, 3], 1, 2, v), [1, 2, 5])

    def test_what_is_known_is_known_for_one_answer_alone(self):
        held = [TWO, chances(10, [4, 3])]
        answers = ask(*held, all_items(), given(0, 1, 0), all_items(), given(0, 1, 1), unbeaten(0), mean(), top(2))
        self.assertEqual(answers[2:], [
            [2, 7, 25, 3, 10], [1, 2, 5], [2, 7, 25, 3, 10], [1, 0, 1], [1, 7, 25], [1, 29, 50], [2, 1, 0],
        ])

    def test_sixteen_items(self):
        held = load(listed(["up"], [[k] for k in range(16)]))
        self.assertEqual(self.told(held, 100, [1] * 16, 0, 15, 0), [1, 99 ** 14, 100 ** 15])
        self.assertEqual(self.told(held, 100, [1] * 16, 0, 0, 1), [1, 99 ** 15, 100 ** 15])
        self.assertEqual(self.told(held, 100, [1] * 16, 0, 15, 1), [1, 0, 1])


if __name__ == "__main__":
    unittest.main()
