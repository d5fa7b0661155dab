import unittest

from helper import OVER, STANDS, add, agree, ask, both, breach, day, last, may, must, mustnt
from test_agree import NOT_JUST_AN_AGREEMENT

MUST = must(0, 0, 5, OVER, breach(0))
MUSTNT = mustnt(1, 1, 2, breach(1), OVER)
MAY = may(1, 0, 7, OVER, OVER)


class Add(unittest.TestCase):

    def test_beside_what_is_left_which_stands_first(self):
        self.assertEqual(
            ask(agree(MUST), add(MUSTNT), STANDS, add(MAY), STANDS),
            [[6], [6], [2, 0, 0, 0, 5, 1, 1, 1, 2],
             [8], [3, 0, 0, 0, 5, 1, 1, 1, 2, 2, 1, 0, 7]])

    def test_both_added_stay_in_their_order(self):
        self.assertEqual(
            ask(agree(MAY), add(both(MUSTNT, MUST)), STANDS),
            [[8], [8], [3, 2, 1, 0, 7, 1, 1, 1, 2, 0, 0, 0, 5]])

    def test_the_day_goes_on_and_what_is_added_begins_today(self):
        self.assertEqual(
            ask(agree(MUST), day(0, 0), day(0, 0), add(MUSTNT), STANDS, day(0, 0), STANDS),
            [[6], [1, 0], [2, 0], [4], [2, 0, 0, 0, 3, 1, 1, 1, 2], [3, 0], [2, 0, 0, 0, 2, 1, 1, 1, 1]])

    def test_how_long_is_of_what_is_left(self):
        self.assertEqual(
            ask(agree(MUST), day(0, 0), day(0, 0), day(0, 0), add(breach(1)), add(MUSTNT)),
            [[6], [1, 0], [2, 0], [3, 0], [3], [3]])

    def test_to_what_is_over(self):
        self.assertEqual(ask(add(MUST), STANDS, day(0, 0)), [[6], [1, 0, 0, 0, 5], [1, 0]])
        self.assertEqual(ask(agree(MUST), day(1, 0), add(MAY), STANDS, day(0, 0)),
                         [[6], [1, 1], [8], [1, 2, 1, 0, 7], [2, 0]])

    def test_of_what_is_over(self):
        self.assertEqual(ask(add(OVER), STANDS, day(0, 0)), [[0], [0], [1, 1]])
        self.assertEqual(ask(agree(MUST), add(OVER), add(both(OVER, OVER)), STANDS, day(1, 0)),
                         [[6], [6], [6], [1, 0, 0, 0, 5], [1, 1]])

    def test_breach_beside_a_duty(self):
        self.assertEqual(ask(agree(MUST), add(breach(1)), STANDS, day(0, 0), day(1, 0)),
                         [[6], [6], [1, 0, 0, 0, 5], [1, 0], [2, 1]])
        self.assertEqual(ask(agree(breach(0)), add(MUST), STANDS), [[0], [6], [1, 0, 0, 0, 5]])

    def test_the_same_twice_stands_twice(self):
        self.assertEqual(ask(add(MUST), add(MUST), STANDS), [[6], [6], [2, 0, 0, 0, 5, 0, 0, 0, 5]])

    def test_refused_leaves_all_as_it_was(self):
        for numbers in NOT_JUST_AN_AGREEMENT:
            self.assertEqual(ask(add(numbers), STANDS, day(0, 0)), [[-1], [0], [1, 1]], numbers)
            self.assertEqual(
                ask(agree(MUST), day(0, 0), add(numbers), STANDS, day(0, 0), STANDS),
                [[6], [1, 0], [-1], [1, 0, 0, 0, 4], [2, 0], [1, 0, 0, 0, 3]], numbers)


class SixtyAdds(unittest.TestCase):

    def test_of_100_numbers_each(self):
        numbers = must(0, 0, 9, MUST, OVER)
        while len(numbers) + 7 <= 100:
            numbers = both(mustnt(1, 1, 3, OVER, OVER), numbers)
        while len(numbers) + 2 <= 100:
            numbers = both(numbers, OVER)
        self.assertEqual(len(numbers), 100)
        duties = (len(last(agree(numbers), STANDS)) - 1) // 4
        given = ask(*([add(numbers)] * 60))
        self.assertEqual(given, [[16]] * 60)
        given = ask(*([add(numbers)] * 58 + [day(0, 0), STANDS]))
        self.assertEqual(given[58], [1, 0])
        self.assertEqual(given[59][0], 58 * duties)
        one = [1, 1, 1, 2] * (duties - 1) + [0, 0, 0, 8]
        self.assertEqual(given[59][1:], one * 58)

    def test_deepest_each_time(self):
        nested = may(0, 0, 4, OVER, MUST)
        while len(nested) + 3 <= 100:
            nested = both(nested, breach(1))
        given = ask(*([add(nested)] * 57 + [day(0, 0), day(1, 0), STANDS]))
        self.assertEqual(given, [[11]] * 57 + [[1, 0], [2, 1], [0]])

    def test_100_numbers_that_are_refused(self):
        given = ask(*([add(MUST)] + [add([5] * 100)] * 58 + [STANDS]))
        self.assertEqual(given, [[6]] + [[-1]] * 58 + [[1, 0, 0, 0, 5]])


if __name__ == "__main__":
    unittest.main()
