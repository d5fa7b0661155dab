import unittest

from helper import OVER, STANDS, add, agree, ask, both, breach, day, last, may, must, mustnt


class Stands(unittest.TestCase):

    def test_nothing(self):
        self.assertEqual(ask(STANDS), [[0]])
        self.assertEqual(last(day(0, 0), STANDS), [0])
        self.assertEqual(last(agree(OVER), STANDS), [0])
        self.assertEqual(last(agree(must(0, 0, 0, OVER, OVER)), day(0, 0), STANDS), [0])

    def test_breach_is_not_listed(self):
        self.assertEqual(last(agree(breach(0)), STANDS), [0])
        self.assertEqual(last(agree(both(breach(0), breach(1))), STANDS), [0])
        told = both(breach(1), both(may(0, 1, 3, OVER, OVER), breach(0)))
        self.assertEqual(last(agree(told), STANDS), [1, 2, 0, 1, 3])
        told = must(1, 1, 0, OVER, breach(1))
        self.assertEqual(last(agree(told), day(0, 0), STANDS), [0])

    def test_one_of_each(self):
        for number, duty in enumerate((must, mustnt, may)):
            for p in (0, 1):
                for act in (0, 1):
                    for k in range(10):
                        given = last(agree(duty(p, act, k, OVER, breach(p))), STANDS)
                        self.assertEqual(given, [1, number, p, act, k])

    def test_several_from_the_left(self):
        one = must(0, 1, 3, OVER, OVER)
        two = mustnt(1, 0, 4, OVER, OVER)
        three = may(1, 1, 5, OVER, OVER)
        four = must(0, 0, 6, OVER, OVER)
        wanted = [4, 0, 0, 1, 3, 1, 1, 0, 4, 2, 1, 1, 5, 0, 0, 0, 6]
        for told in (both(both(one, two), both(three, four)), both(one, both(two, both(three, four))),
                     both(both(both(one, two), three), four), both(one, both(both(two, three), four))):
            self.assertEqual(last(agree(told), STANDS), wanted, told)

    def test_days_behind_today_go_down(self):
        told = both(must(0, 0, 9, OVER, OVER), may(1, 1, 8, OVER, OVER))
        given = ask(agree(told), STANDS, *([day(0, 0), STANDS] * 10))
        for past in range(9):
            self.assertEqual(given[1 + 2 * past], [2, 0, 0, 0, 9 - past, 2, 1, 1, 8 - past])
        self.assertEqual(given[1 + 2 * 9], [1, 0, 0, 0, 0])
        self.assertEqual(given[1 + 2 * 10], [0])

    def test_not_those_within_c_and_d(self):
        inner = must(1, 0, 2, OVER, breach(1))
        told = both(must(0, 0, 1, inner, both(inner, inner)), mustnt(0, 1, 1, both(inner, inner), inner))
        self.assertEqual(last(agree(told), STANDS), [2, 0, 0, 0, 1, 1, 0, 1, 1])
        self.assertEqual(last(agree(told), day(1, 0), STANDS), [2, 0, 1, 0, 2, 1, 0, 1, 0])
        self.assertEqual(last(agree(told), day(0, 0), day(0, 0), STANDS), [3] + [0, 1, 0, 2] * 3)

    def test_changes_nothing(self):
        told = both(must(0, 0, 1, OVER, OVER), may(1, 1, 2, OVER, OVER))
        given = ask(agree(told), STANDS, STANDS, STANDS, day(0, 0), STANDS, add(OVER), STANDS)
        self.assertEqual(given[1:4], [[2, 0, 0, 0, 1, 2, 1, 1, 2]] * 3)
        self.assertEqual(given[4:], [[1, 0], [2, 0, 0, 0, 0, 2, 1, 1, 1], [2], [2, 0, 0, 0, 0, 2, 1, 1, 1]])


if __name__ == "__main__":
    unittest.main()
