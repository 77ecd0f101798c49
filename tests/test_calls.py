"""The interface: the documented examples, no list, calls one behind another."""

import unittest

from offerodds.offers import answers
from tests.helper import (
    GREAT, WORKED, alike, all_items, ask, chances, count_chances, counts, given, item_chances, joined, just_set,
    likeliest, likely, listed, load, mean, outcomes, parted, top, unbeaten,
)

TWO = "measures m up;item x:1;item y:2;"


class Examples(unittest.TestCase):
    def test_worked(self):
        told = ask(
            load(WORKED), chances(2, [1] * 5), unbeaten(3), all_items(), mean(), just_set([0, 1]), just_set([0, 3]),
            just_set([3]), likely(), top(2), given(3, 0, 1), given(3, 0, 0), given(0, 0, 1), counts(),
        )
        self.assertEqual(told, [
            [1, 2, 5], [1], [1, 1, 8], [5, 1, 2, 1, 2, 1, 2, 1, 8, 1, 2], [1, 17, 8], [1, 1, 16], [1, 0, 1],
            [1, 1, 32], [1, 1, 16, 4, 0, 1, 2, 4], [2, 0, 1], [1, 0, 1], [1, 1, 4], [1, 1, 1],
            [6, 1, 32, 7, 32, 13, 32, 9, 32, 1, 16, 0, 1],
        ])

    def test_interface(self):
        told = ask(
            unbeaten(0), load(TWO), unbeaten(0), chances(2, [1, 1]), chances(2, [1]), chances(0, [0, 0]),
            chances(4, [1, 5]), unbeaten(0), unbeaten(2), all_items(), mean(), just_set([1]), just_set([0, 1]),
            just_set([2]), likely(), top(1), top(17), given(0, 1, 0), given(0, 1, 2),
        )
        self.assertEqual(told, [
            [-1], [1, 1, 2], [1, 0, 1], [1], [-4], [-4], [-4], [1, 1, 4], [-2], [2, 1, 4, 1, 2], [1, 3, 4], [1, 1, 2],
            [1, 0, 1], [-2], [1, 1, 2, 1, 1], [1, 1], [-3], [1, 1, 2], [-5],
        ])

    def test_interface_behind_the_load_alone(self):
        told = ask(load(TWO), chances(1, [0, 1]), given(0, 1, 0), counts())
        self.assertEqual(told, [[1, 1, 2], [1], [-8], [3, 0, 1, 1, 1, 0, 1]])

    def test_the_numbers_of_the_calls_as_they_are_handed_in(self):
        text = list(TWO.encode("ascii"))
        flat = [0, len(text)] + text + [1, 2, 2, 1, 1, 2, 0, 3, 4, 5, 1, 1, 6, 7, 1, 8, 0, 1, 0, 9]
        self.assertEqual(answers(flat), [
            3, 1, 1, 2, 1, 1, 3, 1, 1, 4, 5, 2, 1, 4, 1, 2, 3, 1, 3, 4,
            3, 1, 1, 2, 5, 1, 1, 2, 1, 1, 2, 1, 1, 3, 1, 1, 2, 7, 3, 1, 4, 3, 4, 0, 1,
        ])

    def test_what_is_given_back_is_flat_with_counts(self):
        flat = joined([unbeaten(0), load(TWO), all_items(), mean()])
        self.assertEqual(answers(flat), [1, -1, 3, 1, 1, 2, 5, 2, 0, 1, 1, 1, 3, 1, 1, 1])


class NoList(unittest.TestCase):
    def test_each_call_but_load_is_refused(self):
        right = [chances(2, [1]), chances(1, []), unbeaten(0), all_items(), mean(), just_set([0, 1]), just_set([]),
                 likely(), top(0), top(1), given(0, 1, 0), counts()]
        wrong = [chances(0, []), unbeaten(-1), unbeaten(GREAT), just_set([5, 5]), just_set([GREAT] * 2000), top(17),
                 top(-GREAT), given(9, 9, 9), given(0, 0, GREAT), chances(-GREAT, [-GREAT] * 2000)]
        for call in right + wrong:
            self.assertEqual(ask(call), [[-1]], call)
            self.assertEqual(ask(call, load("?"), call, load(TWO)), [[-1], [0, 2, 0], [-1], [1, 1, 2]], call)


class NothingChanges(unittest.TestCase):
    def test_a_call_that_asks_or_is_refused_leaves_the_object_as_it_is(self):
        asking = [unbeaten(1), all_items(), mean(), just_set([0, 1]), just_set([]), likely(), top(1), given(0, 1, 0),
                  given(0, 1, 1), counts()]
        refused = [unbeaten(2), just_set([GREAT, -1, 0]), just_set([0, 0]), top(-GREAT), top(17), given(-1, 7, GREAT),
                   given(0, 1, 2), chances(0, [0, 0]), chances(2, [2, 3]), load("measures m up;item x:1001;")]
        for call in asking + refused:
            told = ask(load(TWO), call, chances(2, [1, 1]), call, unbeaten(0), call, all_items(), call, mean(), call,
                       likely(), call, counts(), call, given(0, 1, 0), call, just_set([1]), call, top(2))
            self.assertEqual(told[0::2], [
                [1, 1, 2], [1], [1, 1, 4], [2, 1, 4, 1, 2], [1, 3, 4], [1, 1, 2, 1, 1], [3, 1, 4, 3, 4, 0, 1],
                [1, 1, 2], [1, 1, 2], [2, 1, 0],
            ], call)
            behind = told[3::2]
            self.assertEqual(behind, [behind[0]] * 8, call)


class OneBehindAnother(unittest.TestCase):
    TWENTY = [
        mean(), load(WORKED), mean(), chances(2, [1, 1, 1, 1, 1]), unbeaten(3), unbeaten(5), load("measures"),
        mean(), chances(4, [4, 3, 2, 1, 0]), all_items(), mean(), load(TWO), all_items(), chances(9, [3, 6]),
        unbeaten(0), unbeaten(1), mean(), chances(9, [3, 10]), mean(), all_items(),
    ]
    TOLD = [
        [-1], [1, 2, 5], [1, 4, 1], [1], [1, 1, 8], [-2], [0, 3, 8],
        [1, 17, 8], [1], [5, 1, 1, 3, 4, 1, 2, 0, 1, 0, 1], [1, 9, 4], [1, 1, 2], [2, 0, 1, 1, 1], [1],
        [1, 1, 9], [1, 2, 3], [1, 7, 9], [-4], [1, 7, 9], [2, 1, 9, 2, 3],
    ]

    def test_twenty_calls(self):
        self.assertEqual(len(self.TWENTY), 20)
        self.assertEqual(ask(*self.TWENTY), self.TOLD)

    def test_the_list_is_the_same_afterwards_and_is_answered_alike_again(self):
        flat = joined(self.TWENTY)
        before = list(flat)
        first = answers(flat)
        self.assertEqual(flat, before)
        second = answers(flat)
        self.assertEqual(flat, before)
        self.assertEqual(first, second)
        self.assertEqual(parted(first), self.TOLD)

    def test_what_is_given_back_is_a_list_of_its_own(self):
        flat = joined([load(TWO), all_items(), likely()])
        told = [3, 1, 1, 2, 5, 2, 0, 1, 1, 1, 5, 1, 1, 1, 1, 1]
        first = answers(flat)
        self.assertEqual(first, told)
        first.append(7)
        self.assertEqual(answers(flat), told)

    def test_nothing_is_kept_from_one_time_to_the_next(self):
        ask(load(WORKED), chances(2, [1] * 5), likely(), given(3, 0, 1), counts())
        for call in (all_items(), mean(), just_set([0]), likely(), top(2), given(0, 1, 0), counts()):
            self.assertEqual(ask(call), [[-1]])
        self.assertEqual(ask(load(WORKED), mean(), likely()), [[1, 2, 5], [1, 4, 1], [1, 1, 1, 4, 0, 1, 2, 4]])

    def test_a_right_load_and_a_faulty_one_ahead_of_the_calls_for_sets(self):
        told = ask(load(WORKED), chances(2, [1] * 5), load("measures"), counts(), load(TWO), counts(), likely(),
                   top(16), given(0, 1, 0), just_set([1]), just_set([4]))
        self.assertEqual(told[3:], [
            [6, 1, 32, 7, 32, 13, 32, 9, 32, 1, 16, 0, 1], [1, 1, 2], [3, 0, 1, 1, 1, 0, 1], [1, 1, 1, 1, 1],
            [2, 1, 0], [-8], [1, 1, 1], [-2],
        ])

    def test_one_call_alone_and_the_longest_lists(self):
        self.assertEqual(answers([4]), [1, -1])
        told = ask(load(b"#" * 8192), load(b" " * 8192), load("measures m up;"))
        self.assertEqual(told, [[0, 1, 4096], [0, 1, 4096], [1, 1, 0]])
        told = ask(load(TWO), *[just_set([GREAT] * 2000)] * 4, *[chances(GREAT, [-GREAT] * 2000)] * 4, all_items())
        self.assertEqual(told[1:], [[-2]] * 4 + [[-4]] * 4 + [[2, 0, 1, 1, 1]])


class TwentyCallsOnTwelveItems(unittest.TestCase):
    ROWS = [[4, 4], [1, 9], [9, 1], [3, 3], [4, 4], [7, 2], [2, 7], [0, 0], [5, 3], [3, 5], [8, 1], [4, 3]]
    TURNS = ["up", "up"]

    def test_each_as_all_worlds_tell(self):
        first = [30, 20, 25, 55, 5, 10, 40, 60, 15, 35, 50, 45]
        second = [1, 0, 2, 1, 1, 2, 1, 1, 0, 1, 1, 1]
        told = ask(
            load(listed(self.TURNS, self.ROWS)), likely(), counts(), chances(60, first), likely(), counts(), mean(),
            top(12), all_items(), just_set([0, 1, 2]), given(3, 0, 0), likely(), counts(), unbeaten(7),
            chances(2, second), likely(), counts(), top(3), chances(3, second[:11]), likely(),
        )
        self.assertEqual(len(told), 20)
        self.assertEqual(told[0], [1, 2, 12])
        self.told_as_in(told[1:3], [likely, counts], 1, [1] * 12)
        self.assertEqual(told[3], [1])
        self.told_as_in(told[4:7] + told[8:9], [likely, counts, mean, all_items], 60, first)
        self.told_as_in(told[11:13], [likely, counts], 60, first)
        self.assertEqual(told[14], [1])
        self.told_as_in(told[15:17], [likely, counts], 2, second)
        self.assertEqual(told[18:], [[-4], told[15]])
        sets = outcomes(self.TURNS, self.ROWS, 60, first)
        each = item_chances(12, sets)
        self.assertEqual(told[7], [12] + sorted(range(12), key=lambda k: (-each[k], k)))
        self.assertEqual(told[9], [1] + self.pair(sets[(0, 1, 2)]))
        self.assertEqual(told[13], [1] + self.pair(each[7]))
        away = item_chances(12, outcomes(self.TURNS, self.ROWS, 60, [0] + first[1:]))
        self.assertEqual(told[10], [1] + self.pair(away[3]))

    def pair(self, fraction):
        return [fraction.numerator, fraction.denominator]

    def told_as_in(self, told, calls, q, numerators):
        """Checks the answers of some calls on these twelve items with these chances."""
        sets = outcomes(self.TURNS, self.ROWS, q, numerators)
        each = item_chances(12, sets)
        greatest, best = likeliest(12, sets)
        often = count_chances(12, sets)
        expected = {
            likely: [1] + self.pair(greatest) + [len(best)] + list(best),
            counts: [13] + [number for chance in often for number in self.pair(chance)],
            mean: [1] + self.pair(sum(each)),
            all_items: [12] + [number for chance in each for number in self.pair(chance)],
        }
        self.assertEqual(told, [expected[call] for call in calls])

    def test_twenty_of_the_longest(self):
        told = ask(alike(12), chances(100, [50] * 12), *[likely(), counts()] * 9)
        self.assertEqual(told[2::2], [[1, 1, 4096, 12] + list(range(12))] * 9)
        self.assertEqual(told[3::2], [told[3]] * 9)
        self.assertEqual(told[3][:5], [13, 1, 4096, 3, 1024])


if __name__ == "__main__":
    unittest.main()
