import unittest

from helper import OVER, STANDS, add, agree, ask, both, breach, day, last, may, must, mustnt

REFUSED = [-1]


class HowLong(unittest.TestCase):

    def long(self, numbers):
        return last(agree(numbers))

    def test_over_and_breach_are_0_long(self):
        for numbers in (OVER, breach(0), breach(1), both(breach(0), breach(1)), both(OVER, OVER)):
            self.assertEqual(self.long(numbers), [0], numbers)

    def test_each_duty_is_k_and_1_more(self):
        for duty in (must, mustnt, may):
            for p in (0, 1):
                for act in (0, 1):
                    for k in range(10):
                        self.assertEqual(self.long(duty(p, act, k, OVER, breach(p))), [k + 1])

    def test_the_longer_of_c_and_d_counts(self):
        short = must(0, 0, 1, OVER, breach(0))
        longer = may(1, 1, 4, OVER, OVER)
        for duty in (must, mustnt, may):
            self.assertEqual(self.long(duty(0, 0, 2, short, longer)), [8])
            self.assertEqual(self.long(duty(0, 0, 2, longer, short)), [8])
            self.assertEqual(self.long(duty(0, 0, 2, longer, OVER)), [8])
            self.assertEqual(self.long(duty(0, 0, 2, breach(1), short)), [5])

    def test_both_is_the_longer_one(self):
        short = must(0, 0, 1, OVER, breach(0))
        longer = mustnt(1, 1, 4, breach(1), OVER)
        self.assertEqual(self.long(both(short, longer)), [5])
        self.assertEqual(self.long(both(longer, short)), [5])
        self.assertEqual(self.long(both(longer, longer)), [5])
        self.assertEqual(self.long(may(0, 1, 0, both(short, longer), OVER)), [6])

    def test_both_with_over_in_it(self):
        duty = must(1, 0, 3, OVER, breach(1))
        self.assertEqual(self.long(both(OVER, duty)), [4])
        self.assertEqual(self.long(both(duty, OVER)), [4])
        self.assertEqual(self.long(must(0, 0, 0, both(OVER, duty), both(OVER, OVER))), [5])
        self.assertEqual(self.long(must(0, 0, 0, both(OVER, OVER), both(duty, OVER))), [5])

    def test_deep_in_c_and_in_d(self):
        # 16 duties of 5 numbers each (with its over) are within 100 numbers.
        in_done = OVER
        in_undone = OVER
        for count in range(1, 17):
            in_done = must(0, 0, 9, in_done, OVER)
            in_undone = mustnt(1, 1, 9, OVER, in_undone)
            self.assertEqual(self.long(in_done), [10 * count])
            self.assertEqual(self.long(in_undone), [10 * count])

    def test_deepest_within_100_numbers(self):
        left = right = must(1, 1, 7, OVER, breach(1))
        while len(left) + 2 <= 100:
            left = both(left, OVER)
            right = both(breach(0), right) if len(right) + 3 <= 100 else right
        self.assertGreaterEqual(min(len(left), len(right)), 97)
        self.assertEqual(self.long(left), [8])
        self.assertEqual(self.long(right), [8])
        chain = OVER
        while len(chain) + 5 <= 100:
            chain = may(0, 1, 0, OVER, chain)
        self.assertEqual(self.long(chain), [19])


class WhatIsAgreed(unittest.TestCase):

    def test_over_beside_anything_is_as_if_not_told(self):
        duty = must(1, 0, 3, OVER, breach(1))
        for numbers in (both(OVER, duty), both(duty, OVER), both(both(OVER, OVER), both(duty, OVER))):
            self.assertEqual(ask(agree(numbers), STANDS), [[4], [1, 0, 1, 0, 3]])
        for numbers in (both(OVER, OVER), both(both(OVER, OVER), OVER)):
            self.assertEqual(ask(agree(numbers), STANDS, day(0, 0)), [[0], [0], [1, 1]])

    def test_over_beside_anything_within_c_and_d(self):
        later = may(1, 0, 2, OVER, OVER)
        first = must(0, 0, 0, both(OVER, later), both(both(OVER, OVER), OVER))
        self.assertEqual(ask(agree(first), day(1, 0), STANDS), [[4], [1, 0], [1, 2, 1, 0, 2]])
        self.assertEqual(ask(agree(first), day(0, 0), STANDS), [[4], [1, 1], [0]])
        first = must(0, 0, 0, both(OVER, OVER), both(later, OVER))
        self.assertEqual(ask(agree(first), day(1, 0), STANDS), [[4], [1, 1], [0]])
        self.assertEqual(ask(agree(first), day(0, 0), STANDS), [[4], [1, 0], [1, 2, 1, 0, 2]])

    def test_agree_takes_the_place_of_all_on_day_0(self):
        one = must(0, 0, 5, OVER, breach(0))
        other = may(1, 1, 2, OVER, OVER)
        self.assertEqual(
            ask(agree(one), add(one), day(0, 0), day(0, 0), agree(other), STANDS, day(0, 0)),
            [[6], [6], [1, 0], [2, 0], [3], [1, 2, 1, 1, 2], [1, 0]])
        self.assertEqual(ask(agree(one), day(0, 0), agree(OVER), STANDS, day(0, 0)),
                         [[6], [1, 0], [0], [0], [1, 1]])
        self.assertEqual(ask(agree(breach(0)), day(0, 0), agree(other), STANDS, day(0, 0)),
                         [[0], [1, 1], [3], [1, 2, 1, 1, 2], [1, 0]])


NOT_JUST_AN_AGREEMENT = (
    [],
    # too few numbers
    [1], [2], [3], [4], [5], [2, 0], [2, 0, 0], [2, 0, 0, 0], [2, 0, 0, 0, 0], [3, 1, 1, 9, 1, 1],
    [4, 0, 0, 0, 1], [4, 0, 0, 0, 0, 1], [5, 0], [5, 1, 0], [5, 5, 0, 0], [5, 0, 2, 0, 0, 0, 0],
    # numbers left over
    [0, 0], [1, 0, 0], [1, 1, 1], [2, 0, 0, 0, 0, 0, 0], [5, 0, 0, 0], [0, 6], [0, 1000],
    # a kind that there isn't
    [6], [7, 0], [1000], [6, 0, 0, 0, 0, 0], [2, 0, 0, 0, 6, 0], [2, 0, 0, 0, 0, 6], [5, 0, 6],
    [5, 1000, 0],
    # p above 1
    [1, 2], [1, 1000], [2, 2, 0, 0, 0, 0], [3, 2, 0, 0, 0, 0], [4, 2, 0, 0, 0, 0],
    [4, 1000, 0, 0, 0, 0], [5, 0, 1, 2], [2, 0, 0, 0, 0, 1, 2], [2, 0, 0, 0, 1, 2, 0],
    # an act above 1
    [2, 0, 2, 0, 0, 0], [3, 0, 2, 0, 0, 0], [4, 0, 2, 0, 0, 0], [2, 0, 1000, 0, 0, 0],
    # k above 9
    [2, 0, 0, 10, 0, 0], [3, 0, 0, 10, 0, 0], [4, 0, 0, 10, 0, 0], [4, 1, 1, 1000, 0, 0],
    [2, 0, 0, 9, 2, 0, 0, 10, 0, 0, 0],
    # 100 numbers and none of it an end
    [5] * 100, [1000] * 100, [0] * 100, [2, 0, 0, 0] * 25,
)


class Refusals(unittest.TestCase):

    def test_refused_on_a_new_agreement(self):
        for numbers in NOT_JUST_AN_AGREEMENT:
            self.assertEqual(ask(agree(numbers), STANDS, day(0, 0)), [REFUSED, [0], [1, 1]], numbers)

    def test_refused_leaves_all_as_it_was(self):
        duty = must(0, 0, 5, OVER, breach(0))
        for numbers in NOT_JUST_AN_AGREEMENT:
            self.assertEqual(
                ask(agree(duty), day(0, 0), agree(numbers), STANDS, day(0, 0), STANDS),
                [[6], [1, 0], REFUSED, [1, 0, 0, 0, 4], [2, 0], [1, 0, 0, 0, 3]], numbers)

    def test_just_within_the_ranges(self):
        for kind in (2, 3, 4):
            for p in (0, 1):
                for act in (0, 1):
                    for k in (0, 9):
                        self.assertEqual(last(agree([kind, p, act, k, 0, 1, p])), [k + 1])

    def test_each_place_up_to_1000(self):
        for kind in range(6, 1001):
            self.assertEqual(last(agree([kind, 0, 0, 0, 0, 0])), REFUSED)
        for number in range(2, 1001):
            self.assertEqual(last(agree([1, number])), REFUSED)
            self.assertEqual(last(agree([3, number, 0, 0, 0, 0])), REFUSED)
            self.assertEqual(last(agree([3, 0, number, 0, 0, 0])), REFUSED)
        for number in range(10, 1001):
            self.assertEqual(last(agree([3, 0, 0, number, 0, 0])), REFUSED)


if __name__ == "__main__":
    unittest.main()
