import itertools
import unittest

from helper import LEFT, OVER, STANDS, WHO, add, agree, ask, both, breach, day, doing, last, may, must, mustnt
from helper import safe, today

DUTIES = (must, mustnt, may)
YES = [1]
NO = [0]


class Safe(unittest.TestCase):

    def tells(self, numbers, p, wanted):
        self.assertEqual(last(agree(numbers), safe(p)), wanted, (numbers, p))


class Settled(Safe):

    def test_at_the_beginning(self):
        self.assertEqual(ask(safe(0), safe(1)), [YES, YES])
        self.assertEqual(ask(day(3, 0), safe(0), safe(1)), [[1, 1], YES, YES])

    def test_over_and_breach(self):
        for p in (0, 1):
            self.tells(OVER, p, YES)
            self.tells(breach(p), p, NO)
            self.tells(breach(1 - p), p, YES)
            self.tells(both(breach(1 - p), breach(1 - p)), p, YES)
            self.tells(both(breach(0), breach(1)), p, NO)
            self.tells(both(breach(1), breach(0)), p, NO)

    def test_breach_beside_a_duty(self):
        kept = must(0, 0, 1, OVER, OVER)
        for p in (0, 1):
            self.tells(both(breach(p), kept), p, NO)
            self.tells(both(kept, both(kept, breach(p))), p, NO)
            self.tells(both(breach(1 - p), kept), p, YES)


class OneDuty(Safe):

    def each(self):
        for duty, who, act, k in itertools.product(DUTIES, (0, 1), (0, 1), range(5)):
            yield who, lambda done, undone: duty(who, act, k, done, undone)

    def test_its_own_can_be_done_or_left_undone(self):
        for p, told in self.each():
            self.tells(told(OVER, OVER), p, YES)
            self.tells(told(breach(p), OVER), p, YES)
            self.tells(told(OVER, breach(p)), p, YES)
            self.tells(told(breach(p), breach(p)), p, NO)
            self.tells(told(breach(p), breach(1 - p)), p, YES)
            self.tells(told(breach(1 - p), breach(p)), p, YES)

    def test_the_other_ones_is_not_in_its_hands(self):
        for other, told in self.each():
            p = 1 - other
            self.tells(told(OVER, OVER), p, YES)
            self.tells(told(breach(p), OVER), p, NO)
            self.tells(told(OVER, breach(p)), p, NO)
            self.tells(told(breach(p), breach(p)), p, NO)
            self.tells(told(breach(other), breach(other)), p, YES)

    def test_breach_as_part_of_what_comes(self):
        later = may(0, 0, 1, OVER, OVER)
        for p in (0, 1):
            self.tells(must(p, 0, 1, both(breach(p), later), both(later, breach(p))), p, NO)
            self.tells(must(p, 0, 1, both(breach(p), later), both(later, breach(1 - p))), p, YES)

    def test_what_comes_later_counts(self):
        for p in (0, 1):
            lost = must(1 - p, 1, 0, OVER, breach(p))
            kept = must(p, 1, 0, OVER, breach(p))
            self.tells(must(p, 0, 1, lost, OVER), p, YES)
            self.tells(must(p, 0, 1, lost, kept), p, YES)
            self.tells(must(p, 0, 1, lost, lost), p, NO)
            self.tells(must(1 - p, 0, 1, kept, kept), p, YES)
            self.tells(must(1 - p, 0, 1, lost, kept), p, NO)
            self.tells(must(1 - p, 0, 1, kept, lost), p, NO)
            deep = must(1 - p, 0, 0, kept, must(1 - p, 0, 0, kept, must(1 - p, 0, 0, kept, lost)))
            self.tells(deep, p, NO)
            deep = must(1 - p, 0, 0, kept, must(1 - p, 0, 0, kept, must(1 - p, 0, 0, kept, kept)))
            self.tells(deep, p, YES)


class SeveralDuties(Safe):

    def test_that_stand_against_each_other(self):
        for p, act in itertools.product((0, 1), (0, 1)):
            for k in range(5):
                do = must(p, act, k, OVER, breach(p))
                dont = mustnt(p, act, k, breach(p), OVER)
                self.tells(do, p, YES)
                self.tells(dont, p, YES)
                self.tells(both(do, dont), p, NO)
                self.tells(both(dont, do), p, NO)
                self.tells(both(dont, both(OVER, do)), p, NO)
                self.assertEqual(ask(agree(do), safe(p), add(dont), safe(p))[1::2], [YES, NO])

    def test_that_leave_a_day_between_them(self):
        for p in (0, 1):
            dont = mustnt(p, 0, 2, breach(p), OVER)
            self.tells(both(must(p, 0, 3, OVER, breach(p)), dont), p, YES)
            self.tells(both(must(p, 0, 2, OVER, breach(p)), dont), p, NO)
            # From the day on which the first one ends the act is forbidden by another.
            ends = must(p, 0, 3, OVER, breach(p))
            then = may(p, 1, 2, OVER, mustnt(p, 0, 0, breach(p), OVER))
            self.tells(both(both(ends, dont), then), p, YES)
            then = both(may(p, 1, 2, OVER, mustnt(p, 0, 0, breach(p), OVER)), mustnt(p, 1, 2, breach(p), OVER))
            self.tells(both(both(ends, dont), then), p, NO)

    def test_of_different_acts_or_parties_do_not_touch(self):
        for p in (0, 1):
            do = must(p, 0, 0, OVER, breach(p))
            self.tells(both(do, mustnt(p, 1, 0, breach(p), OVER)), p, YES)
            self.tells(both(do, must(p, 1, 0, OVER, breach(p))), p, YES)
            self.tells(both(do, mustnt(1 - p, 0, 0, breach(1 - p), OVER)), p, YES)
            self.tells(both(do, both(must(1 - p, 1, 0, OVER, breach(1 - p)), mustnt(1 - p, 1, 0, breach(1 - p), OVER))),
                       p, YES)

    def test_each_alone_can_be_kept_but_not_all(self):
        # Tomorrow one act has to be done and left undone, whichever way of today is taken.
        for p in (0, 1):
            do = must(p, 1, 0, OVER, breach(p))
            dont = mustnt(p, 1, 0, breach(p), OVER)
            first = must(p, 0, 0, do, dont)
            second = must(p, 0, 0, dont, do)
            third = must(p, 0, 0, do, OVER)
            self.tells(first, p, YES)
            self.tells(second, p, YES)
            self.tells(both(first, second), p, NO)
            self.tells(both(first, third), p, YES)
            self.tells(both(second, third), p, YES)


class WhatTheOtherDoes(Safe):

    def test_on_the_days_before_is_known(self):
        # What the other one does today has to be done tomorrow, just that.
        for p in (0, 1):
            same = both(must(1 - p, 0, 0, must(p, 0, 0, OVER, breach(p)), mustnt(p, 0, 0, breach(p), OVER)),
                        must(1 - p, 1, 0, must(p, 1, 0, OVER, breach(p)), mustnt(p, 1, 0, breach(p), OVER)))
            self.tells(same, p, YES)
            for others in range(4):
                self.assertEqual(last(agree(same), doing(p, 0, others), safe(p)), YES)
                self.assertEqual(last(agree(same), doing(p, 0, others), today(p)), [others])

    def test_on_a_later_day_is_not_known(self):
        for p in (0, 1):
            guess = must(p, 0, 0, must(1 - p, 0, 0, OVER, breach(p)), mustnt(1 - p, 0, 0, breach(p), OVER))
            self.tells(guess, p, NO)

    def same_day(self, p, wait):
        """Act 0 has to be done, just if the other one didn't, on the same day or so many days behind it.

        What was done is held against each other a day later: act 0 or act 1 is due and forbidden then.
        """
        due = (must(p, 0, 0, OVER, breach(p)), must(p, 1, 0, OVER, breach(p)))
        forbidden = (mustnt(p, 0, 0, breach(p), OVER), mustnt(p, 1, 0, breach(p), OVER))
        own = must(p, 0, 0, forbidden[0], forbidden[1])
        for _ in range(wait):
            own = may(1 - p, 1, 0, own, own)
            due = [may(1 - p, 1, 0, later, later) for later in due]
        return both(own, must(1 - p, 0, 0, due[0], due[1]))

    def test_on_the_same_day_is_not_known(self):
        for p in (0, 1):
            told = self.same_day(p, 0)
            self.tells(told, p, NO)
            # Once the day is past it's known: it can be lucky.
            self.assertEqual(ask(agree(told), doing(p, 1, 0), safe(p))[2], YES)
            self.assertEqual(ask(agree(told), doing(p, 0, 1), safe(p))[2], YES)
            self.assertEqual(ask(agree(told), doing(p, 1, 1), safe(p))[2], NO)
            self.assertEqual(ask(agree(told), doing(p, 0, 0), safe(p))[2], NO)

    def test_a_day_before_is_enough(self):
        for p in (0, 1):
            told = self.same_day(p, 1)
            self.tells(told, p, YES)
            self.assertEqual(ask(agree(told), doing(p, 0, 1), safe(p), today(p))[2:], [YES, [0]])
            self.assertEqual(ask(agree(told), doing(p, 0, 2), safe(p), today(p))[2:], [YES, [1]])
            self.assertEqual(ask(agree(told), doing(p, 0, 2), doing(p, 0, 2), safe(p))[3], NO)

    def test_each_of_its_choices_counts(self):
        # By just one choice of today the other one makes an act due and forbidden tomorrow.
        for p, others in itertools.product((0, 1), range(4)):
            parts = []
            for act, what in ((0, must(p, 0, 0, OVER, breach(p))), (1, mustnt(p, 0, 0, breach(p), OVER))):
                does = others >> act & 1
                parts.append(may(1 - p, act, 0, what if does else OVER, OVER if does else what))
            told = both(parts[0], parts[1])
            self.tells(parts[0], p, YES)
            self.tells(parts[1], p, YES)
            self.tells(told, p, NO)
            for choice in range(4):
                self.assertEqual(last(agree(told), doing(p, 0, choice), safe(p)), NO if choice == others else YES)
            # A day later it's still so, and a day earlier something else is to be done.
            self.tells(must(p, 0, 0, told, told), p, NO)
            self.tells(must(p, 0, 0, told, OVER), p, YES)
            self.assertEqual(last(agree(must(p, 1, 0, OVER, told)), today(p)), [2])

    def test_it_need_not_be_against_its_own_good(self):
        # The other one would be in breach by it, and still may do it.
        for p in (0, 1):
            self.tells(must(1 - p, 0, 0, OVER, both(breach(p), breach(1 - p))), p, NO)


class DayByDay(Safe):

    def test_before_and_after_a_day(self):
        told = must(0, 0, 1, OVER, breach(0))
        self.assertEqual(ask(agree(told), safe(0), day(0, 0), safe(0), day(0, 0), safe(0))[1::2], [YES, YES, NO])
        self.assertEqual(ask(agree(told), safe(0), day(0, 0), safe(0), day(1, 0), safe(0))[1::2], [YES, YES, YES])
        told = mustnt(1, 0, 1, breach(1), OVER)
        self.assertEqual(ask(agree(told), safe(1), day(0, 1), safe(1))[1::2], [YES, NO])
        told = must(1, 0, 1, OVER, breach(0))
        self.assertEqual(ask(agree(told), safe(0), day(0, 1), safe(0))[1::2], [NO, YES])
        self.assertEqual(ask(agree(told), safe(0), day(0, 0), safe(0), day(3, 3), safe(0))[1::2], [NO, NO, YES])

    def test_lost_ahead_of_the_breach(self):
        lost = both(must(0, 1, 2, OVER, breach(0)), mustnt(0, 1, 2, breach(0), OVER))
        told = must(0, 0, 0, OVER, lost)
        self.assertEqual(ask(agree(told), safe(0), day(0, 0), safe(0), WHO)[1::2], [YES, NO])
        self.assertEqual(last(agree(told), day(0, 0), WHO), [-1, -1])

    def test_added_later(self):
        told = must(0, 0, 3, OVER, breach(0))
        self.assertEqual(
            ask(agree(told), day(0, 0), safe(0), add(mustnt(0, 0, 1, breach(0), OVER)), safe(0),
                add(mustnt(0, 0, 2, breach(0), OVER)), safe(0), agree(told), safe(0))[2::2],
            [YES, YES, NO, YES])


class HowLong(Safe):

    def test_of_0_to_5_is_answered(self):
        for p in (0, 1):
            for k in range(5):
                self.tells(must(p, 0, k, OVER, breach(p)), p, YES)
                self.tells(must(1 - p, 0, k, OVER, breach(p)), p, NO)
            self.tells(must(p, 0, 1, OVER, must(p, 0, 2, OVER, breach(p))), p, YES)
            self.tells(must(p, 0, 1, must(1 - p, 0, 2, OVER, breach(p)), breach(p)), p, NO)

    def test_longer_than_5_is_refused(self):
        for p in (0, 1):
            for told in (must(p, 0, 5, OVER, OVER), must(1 - p, 0, 9, OVER, OVER),
                         may(0, 0, 1, OVER, may(0, 0, 3, OVER, OVER)), may(0, 0, 1, may(0, 0, 3, OVER, OVER), OVER),
                         both(OVER, both(breach(p), mustnt(0, 0, 5, OVER, OVER)))):
                self.tells(told, p, [-5])

    def test_from_6_to_5_by_a_day(self):
        told = must(0, 0, 5, OVER, breach(0))
        self.assertEqual(ask(agree(told), safe(0), day(0, 0), safe(0), safe(1))[1:], [[-5], [1, 0], YES, YES])
        self.assertEqual(ask(agree(told), safe(0), day(1, 0), safe(0))[1::2], [[-5], YES])

    def test_from_5_to_6_by_add(self):
        self.assertEqual(
            ask(agree(may(0, 0, 4, OVER, OVER)), safe(1), add(may(1, 1, 5, OVER, OVER)), safe(1))[1::2], [YES, [-5]])


class Refusals(Safe):

    def test_p_above_1(self):
        for p in (2, 3, 4, 5, 999, 1000):
            self.assertEqual(ask(safe(p)), [[-2]])
            for told in (breach(0), must(0, 0, 4, OVER, OVER), must(0, 0, 5, OVER, OVER)):
                self.tells(told, p, [-2])

    def test_every_p_above_1(self):
        for p in range(2, 1001):
            self.assertEqual(ask(safe(p)), [[-2]])

    def test_all_is_as_it_was(self):
        told = both(must(0, 0, 6, OVER, breach(0)), breach(1))
        looks = [STANDS, WHO, LEFT]
        for refused in (safe(2), safe(0), safe(1000)):
            given = ask(agree(told), day(0, 0), *looks, refused, *looks, day(0, 0))
            self.assertLess(given[5][0], 0)
            self.assertEqual(given[2:5], given[6:9])
            self.assertEqual(given[9], [2, 0])


class ChangesNothing(Safe):

    def test_all_is_as_it_was(self):
        told = both(must(0, 0, 3, OVER, breach(0)),
                    both(must(1, 0, 0, OVER, breach(1)), mustnt(1, 1, 1, breach(0), OVER)))
        looks = [STANDS, WHO, LEFT]
        given = ask(agree(told), day(0, 0), *looks, safe(0), *looks, safe(1), *looks, safe(0), day(0, 0))
        self.assertEqual(given[5::4][:2], [NO, NO])
        self.assertEqual(given[2:5], given[6:9])
        self.assertEqual(given[2:5], given[10:13])
        self.assertEqual(given[13:], [NO, [2, 0]])


if __name__ == "__main__":
    unittest.main()
