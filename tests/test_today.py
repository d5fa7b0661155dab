import itertools
import unittest

from helper import LEFT, OVER, STANDS, WHO, add, agree, ask, both, breach, day, doing, last, may, must, mustnt
from helper import safe, today

DUTIES = (must, mustnt, may)


def due(p, act, k=0):
    return must(p, act, k, OVER, breach(p))


def forbidden(p, act, k=0):
    return mustnt(p, act, k, breach(p), OVER)


class Today(unittest.TestCase):

    def tells(self, numbers, p, wanted):
        self.assertEqual(last(agree(numbers), today(p)), [wanted], (numbers, p))


class EachChoice(Today):

    def test_none_where_all_is_over(self):
        self.assertEqual(ask(today(0), today(1), day(1, 1), today(0)), [[0], [0], [1, 1], [0]])
        for p in (0, 1):
            self.tells(OVER, p, 0)
            self.tells(breach(1 - p), p, 0)

    def test_the_acts_that_are_due(self):
        for p in (0, 1):
            self.tells(due(p, 0), p, 1)
            self.tells(due(p, 1), p, 2)
            self.tells(both(due(p, 0), due(p, 1)), p, 3)
            self.tells(both(due(p, 1), due(p, 0)), p, 3)
            self.tells(both(due(p, 0), due(p, 0)), p, 1)

    def test_the_lowest_where_several_would_do(self):
        for p in (0, 1):
            self.tells(both(due(p, 0), may(p, 1, 0, OVER, OVER)), p, 1)
            self.tells(both(due(p, 1), may(p, 0, 0, OVER, OVER)), p, 2)
            self.tells(may(p, 0, 0, OVER, OVER), p, 0)
            for k in range(1, 5):
                self.tells(due(p, 0, k), p, 0)

    def test_just_one_would_do(self):
        for p in (0, 1):
            self.tells(both(forbidden(p, 0), forbidden(p, 1)), p, 0)
            self.tells(both(due(p, 0), forbidden(p, 1)), p, 1)
            self.tells(both(forbidden(p, 0), due(p, 1)), p, 2)

    def test_what_it_is_called_does_not_count_but_what_comes_of_it(self):
        for duty, p, act in itertools.product(DUTIES, (0, 1), (0, 1)):
            self.tells(duty(p, act, 0, OVER, breach(p)), p, 1 + act)
            self.tells(duty(p, act, 0, breach(p), OVER), p, 0)
            self.tells(duty(p, act, 0, OVER, breach(1 - p)), p, 0)
            self.tells(duty(p, act, 0, breach(1 - p), OVER), p, 0)

    def test_the_other_ones_duties_are_not_its_own(self):
        for p in (0, 1):
            self.tells(due(1 - p, 0), p, 0)
            self.tells(both(due(1 - p, 0), due(p, 1)), p, 2)
            self.tells(both(due(1 - p, 0), due(p, 1)), 1 - p, 1)


class FromTomorrowOn(Today):

    def test_on_the_last_day_it_is_due(self):
        for p in (0, 1):
            given = ask(agree(due(p, 1, 4)), today(p), *([day(1, 1), today(p)] * 4), day(1, 1), today(p))
            self.assertEqual(given[1::2], [[0], [0], [0], [0], [2], [-6]])

    def test_what_cannot_be_done_tomorrow_is_done_today(self):
        for p in (0, 1):
            closed = may(1 - p, 1, 0, forbidden(p, 0), forbidden(p, 0))
            self.tells(both(due(p, 0, 1), closed), p, 1)
            self.tells(both(due(p, 0, 2), closed), p, 0)
            # The other one may close it, so it counts as closed.
            self.tells(both(due(p, 0, 1), may(1 - p, 1, 0, forbidden(p, 0), OVER)), p, 1)
            self.tells(both(due(p, 0, 1), may(1 - p, 1, 0, OVER, forbidden(p, 0))), p, 1)
            # It may close it itself, and needn't.
            self.tells(both(due(p, 0, 1), may(p, 1, 0, forbidden(p, 0), OVER)), p, 0)
            self.tells(both(due(p, 0, 1), may(p, 1, 0, OVER, forbidden(p, 0))), p, 1)
            self.tells(both(both(due(p, 0, 1), may(p, 1, 0, OVER, forbidden(p, 0))), forbidden(p, 0)), p, 2)

    def test_what_leads_to_what_is_lost_is_left_undone(self):
        for p in (0, 1):
            lost = must(1 - p, 0, 0, OVER, breach(p))
            self.tells(must(p, 0, 0, lost, OVER), p, 0)
            self.tells(must(p, 0, 0, OVER, lost), p, 1)
            self.tells(must(p, 1, 0, OVER, lost), p, 2)
            self.tells(both(must(p, 1, 0, OVER, lost), must(p, 0, 0, OVER, lost)), p, 3)
            self.tells(must(p, 1, 0, lost, lost), p, -6)

    def test_four_days_ahead(self):
        for p in (0, 1):
            late = both(due(p, 1), forbidden(p, 1))
            for _ in range(3):
                late = may(1 - p, 0, 0, OVER, late)
            self.tells(must(p, 0, 0, late, OVER), p, 0)
            self.tells(must(p, 0, 0, OVER, late), p, 1)
            self.tells(must(p, 0, 0, late, late), p, -6)


class NoSuchChoice(Today):

    def test_none_does(self):
        for p in (0, 1):
            self.tells(both(due(p, 0), forbidden(p, 0)), p, -6)
            self.tells(both(due(p, 1, 4), forbidden(p, 1, 4)), p, -6)
            self.tells(due(1 - p, 0)[:-1] + [p], p, -6)
            self.tells(must(p, 0, 0, breach(p), breach(p)), p, -6)

    def test_in_breach_already(self):
        for p in (0, 1):
            for told in (breach(p), both(breach(p), breach(1 - p)), both(due(p, 0), breach(p)),
                         both(breach(p), due(1 - p, 0, 4))):
                self.tells(told, p, -6)
            self.assertEqual(ask(agree(due(p, 0)), day(2, 2), today(p), today(1 - p))[2:], [[-6], [0]])

    def test_just_where_it_is_not_safe(self):
        for p in (0, 1):
            for told in (OVER, breach(p), due(p, 1, 2), must(1 - p, 0, 1, OVER, breach(p)),
                         both(due(p, 0, 1), forbidden(p, 0, 1)), both(due(p, 0, 2), forbidden(p, 0, 1))):
                given = ask(agree(told), safe(p), today(p))
                self.assertEqual(given[1] == [1], given[2][0] >= 0)


class Refusals(Today):

    def test_p_above_1(self):
        for p in (2, 3, 5, 6, 1000):
            self.assertEqual(ask(today(p)), [[-2]])
            for told in (breach(0), both(breach(0), breach(1)), due(0, 0, 4), due(0, 0, 5)):
                self.tells(told, p, -2)

    def test_every_p_above_1(self):
        for p in range(2, 1001):
            self.assertEqual(ask(today(p)), [[-2]])

    def test_longer_than_5(self):
        for p in (0, 1):
            self.tells(due(p, 0, 4), p, 0)
            self.tells(due(p, 0, 5), p, -5)
            self.tells(due(1 - p, 0, 5), p, -5)
            self.tells(may(0, 0, 1, OVER, may(0, 0, 3, OVER, OVER)), p, -5)
            self.tells(may(0, 0, 1, OVER, may(0, 0, 2, OVER, OVER)), p, 0)

    def test_the_one_told_first(self):
        long = both(breach(0), due(1, 0, 5))
        self.tells(long, 2, -2)
        self.tells(long, 0, -5)
        self.assertEqual(ask(agree(long), today(0), day(0, 0), today(0))[1::2], [[-5], [-6]])
        self.tells(both(due(0, 0), both(forbidden(0, 0), may(1, 1, 9, OVER, OVER))), 0, -5)

    def test_all_is_as_it_was(self):
        told = both(due(0, 0, 6), breach(1))
        looks = [STANDS, WHO, LEFT]
        for refused in (today(2), today(0), today(1000)):
            given = ask(agree(told), day(0, 0), *looks, refused, *looks, day(0, 0))
            self.assertLess(given[5][0], 0)
            self.assertEqual(given[2:5], given[6:9])
            self.assertEqual(given[9], [2, 0])
        given = ask(agree(breach(1)), *looks, today(1), *looks, day(0, 0))
        self.assertEqual(given[4], [-6])
        self.assertEqual(given[1:4], given[5:8])


class ChangesNothing(Today):

    def test_all_is_as_it_was(self):
        told = both(due(0, 0, 1), both(must(1, 0, 0, OVER, breach(1)), forbidden(0, 1, 1)))
        looks = [STANDS, WHO, LEFT]
        given = ask(agree(told), day(0, 0), *looks, today(0), *looks, today(1), *looks, today(0), day(0, 0))
        self.assertEqual(given[5], [1])
        self.assertEqual(given[9], [-6])
        self.assertEqual(given[2:5], given[6:9])
        self.assertEqual(given[2:5], given[10:13])
        self.assertEqual(given[13:], [[1], [2, 1]])


class Followed(Today):

    def follow(self, numbers, p, days):
        """By each way the other one may act: today is followed, and p is never in breach."""
        ways = [(agree(numbers),)]
        for _ in range(days):
            longer = []
            for way in ways:
                given = ask(*way, today(p), WHO)
                self.assertIn(given[-2][0], (0, 1, 2, 3), (numbers, way))
                self.assertEqual(given[-1][p], -1, (numbers, way))
                longer += [way + (doing(p, given[-2][0], others),) for others in range(4)]
            ways = longer
        for way in ways:
            self.assertEqual(last(*way, WHO)[p], -1, (numbers, way))

    def test_to_the_end_never_ends_in_breach(self):
        for p in (0, 1):
            other = 1 - p
            answer = both(must(other, 0, 1, due(p, 0), forbidden(p, 0)),
                          must(other, 1, 0, due(p, 1, 1), forbidden(p, 1, 1)))
            for told in (due(p, 0, 3), both(due(p, 0, 3), forbidden(p, 0, 2)), answer, both(answer, due(p, 0, 2)),
                         both(due(p, 1, 1), may(other, 1, 0, forbidden(p, 1), OVER)),
                         both(answer, must(p, 0, 0, due(p, 0, 1), forbidden(p, 1)))):
                self.assertEqual(last(agree(told), safe(p)), [1], told)
                self.follow(told, p, 4)


if __name__ == "__main__":
    unittest.main()
