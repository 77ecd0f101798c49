"""The interface: the documented examples, no list, calls one behind another."""

import unittest

from offerodds.offers import answers
from tests.helper import (
    WORKED, all_items, ask, chances, counts, given, joined, just_set, likely, load, mean, parted, top, unbeaten,
)

TWO = "measures m up;item x:1;item y:2;"
LATER = [just_set([0, 1]), just_set([]), likely(), top(1), given(0, 1, 0), counts()]


class Examples(unittest.TestCase):
    def test_worked(self):
        told = ask(load(WORKED), chances(2, [1] * 5), unbeaten(3), all_items(), mean())
        self.assertEqual(told, [
            [1, 2, 5], [1], [1, 1, 8], [5, 1, 2, 1, 2, 1, 2, 1, 8, 1, 2], [1, 17, 8],
        ])

    def test_interface(self):
        told = ask(
            unbeaten(0), load(TWO), unbeaten(0), chances(2, [1, 1]), chances(2, [1]), chances(0, [0, 0]),
            chances(4, [1, 5]), unbeaten(0), unbeaten(2), all_items(), mean(),
        )
        self.assertEqual(told, [
            [-1], [1, 1, 2], [1, 0, 1], [1], [-4], [-4], [-4], [1, 1, 4], [-2], [2, 1, 4, 1, 2], [1, 3, 4],
        ])

    def test_interface_behind_the_load_alone(self):
        self.assertEqual(ask(load(TWO), chances(1, [0, 1])), [[1, 1, 2], [1]])

    def test_what_is_given_back_is_flat_with_counts(self):
        flat = joined([unbeaten(0), load(TWO), all_items(), mean()])
        self.assertEqual(answers(flat), [1, -1, 3, 1, 1, 2, 5, 2, 0, 1, 1, 1, 3, 1, 1, 1])


class NoList(unittest.TestCase):
    def test_each_call_but_load_is_refused(self):
        first_five = [chances(2, [1]), chances(0, []), chances(1, []), unbeaten(0), unbeaten(-1), unbeaten(10 ** 18),
                      all_items(), mean()]
        wrong = [just_set([5, 5]), top(17), given(9, 9, 9)]
        for call in first_five + LATER + wrong:
            self.assertEqual(ask(call), [[-1]], call)
            self.assertEqual(ask(call, load("?"), call, load(TWO)), [[-1], [0, 2, 0], [-1], [1, 1, 2]], call)


class LaterCalls(unittest.TestCase):
    def test_they_do_not_disturb_the_others(self):
        for later in LATER + [just_set([10 ** 18, -1, 0]), top(-10 ** 18), given(-1, 7, 10 ** 18)]:
            told = ask(load(TWO), later, chances(2, [1, 1]), later, unbeaten(0), later, all_items(), later, mean())
            self.assertEqual(told[0::2], [[1, 1, 2], [1], [1, 1, 4], [2, 1, 4, 1, 2], [1, 3, 4]], later)


class OneBehindAnother(unittest.TestCase):
    TWENTY = [
        mean(), load(WORKED), mean(), chances(2, [1, 1, 1, 1, 1]), unbeaten(3), unbeaten(5), load("measures"),
        mean(), chances(4, [4, 3, 2, 1, 0]), all_items(), mean(), load(TWO), all_items(), chances(9, [3, 6]),
        unbeaten(0), unbeaten(1), mean(), chances(9, [3, 10]), mean(), all_items(),
    ]
    TOLD = [
        [-1], [1, 2, 5], [1, 4, 1], [1], [1, 1, 8], [-2], [0, 3, 8],
        [1, 17, 8], [1], [5, 1, 1, 3, 4, 1, 2, 0, 1, 0, 1], [1, 9, 4], [1, 1, 2], [2, 0, 1, 1, 1], [1],
        [1, 1, 9], [1, 2, 3], [1, 7, 9], [-4], [1, 7, 9], [2, 1, 9, 2, 3],
    ]

    def test_twenty_calls(self):
        self.assertEqual(len(self.TWENTY), 20)
        self.assertEqual(ask(*self.TWENTY), self.TOLD)

    def test_the_list_is_the_same_afterwards_and_is_answered_alike_again(self):
        flat = joined(self.TWENTY)
        before = list(flat)
        first = answers(flat)
        self.assertEqual(flat, before)
        second = answers(flat)
        self.assertEqual(flat, before)
        self.assertEqual(first, second)
        self.assertEqual(parted(first), self.TOLD)

    def test_what_is_given_back_is_a_list_of_its_own(self):
        flat = joined([load(TWO), all_items()])
        first = answers(flat)
        first.append(7)
        self.assertEqual(answers(flat), [3, 1, 1, 2, 5, 2, 0, 1, 1, 1])

    def test_nothing_is_kept_from_one_time_to_the_next(self):
        ask(load(WORKED), chances(2, [1] * 5))
        self.assertEqual(ask(all_items()), [[-1]])
        self.assertEqual(ask(load(WORKED), mean()), [[1, 2, 5], [1, 4, 1]])

    def test_one_call_alone_and_the_longest_list(self):
        self.assertEqual(answers([4]), [1, -1])
        told = ask(load(b"#" * 8192), load(b" " * 8192), load("measures m up;"))
        self.assertEqual(told, [[0, 1, 4096], [0, 1, 4096], [1, 1, 0]])


if __name__ == "__main__":
    unittest.main()
