import unittest

from helper import LEFT, OVER, STANDS, WHO, add, agree, ask, both, breach, day, last, may, must, mustnt
from test_agree import NOT_JUST_AN_AGREEMENT

DUTIES = (must, mustnt, may)
NOTHING = (OVER, both(OVER, OVER), both(both(OVER, OVER), OVER), both(OVER, both(OVER, OVER)))
DUTY = must(1, 0, 3, OVER, breach(1))


def told(numbers):
    """What left answers when these numbers are agreed."""
    return [len(numbers)] + numbers


class Left(unittest.TestCase):

    def same(self, numbers, wanted):
        self.assertEqual(last(agree(numbers), LEFT), told(wanted), numbers)
        self.assertEqual(last(add(numbers), LEFT), told(wanted), numbers)

    def test_at_the_beginning(self):
        self.assertEqual(ask(LEFT), [[1, 0]])
        self.assertEqual(ask(day(1, 2), LEFT), [[1, 1], [1, 0]])

    def test_each_kind(self):
        self.same(OVER, [0])
        for p in (0, 1):
            self.same(breach(p), [1, p])
            for kind, duty in enumerate(DUTIES, start=2):
                for act in (0, 1):
                    for k in range(10):
                        self.same(duty(p, act, k, OVER, breach(p)), [kind, p, act, k, 0, 1, p])
                        self.same(duty(p, act, k, breach(1 - p), OVER), [kind, p, act, k, 1, 1 - p, 0])
        self.same(both(breach(1), breach(0)), [5, 1, 1, 1, 0])
        self.same(both(breach(0), DUTY), [5, 1, 0, 2, 1, 0, 3, 0, 1, 1])

    def test_both_stays_nested_as_told(self):
        for numbers in (both(both(DUTY, breach(0)), DUTY), both(DUTY, both(breach(0), DUTY)), both(DUTY, DUTY),
                        both(breach(0), breach(0)), both(both(DUTY, DUTY), both(breach(1), DUTY))):
            self.same(numbers, numbers)

    def test_within_c_and_d(self):
        for duty in DUTIES:
            numbers = duty(0, 1, 4, both(DUTY, breach(0)), must(0, 0, 2, both(DUTY, DUTY), mustnt(1, 1, 9, OVER, DUTY)))
            self.same(numbers, numbers)


class NothingOverBesideAnything(unittest.TestCase):

    def same(self, numbers, wanted):
        self.assertEqual(last(agree(numbers), LEFT), told(wanted), numbers)
        self.assertEqual(last(add(numbers), LEFT), told(wanted), numbers)
        self.assertEqual(last(agree(breach(0)), add(numbers), LEFT),
                         told(breach(0) if wanted == OVER else both(breach(0), wanted)), numbers)

    def test_on_top(self):
        for nothing in NOTHING:
            self.same(nothing, OVER)
            for something in (DUTY, breach(0), both(DUTY, breach(0)), both(breach(1), DUTY)):
                self.same(both(nothing, something), something)
                self.same(both(something, nothing), something)
                self.same(both(both(nothing, something), nothing), something)
                self.same(both(both(nothing, something), both(DUTY, nothing)), both(something, DUTY))

    def test_within_c_and_d(self):
        for duty in DUTIES:
            for nothing in NOTHING:
                self.same(duty(0, 0, 1, both(nothing, DUTY), nothing), duty(0, 0, 1, DUTY, OVER))
                self.same(duty(0, 0, 1, nothing, both(DUTY, nothing)), duty(0, 0, 1, OVER, DUTY))
                deep = must(1, 1, 2, both(duty(0, 0, 1, both(nothing, breach(1)), nothing), nothing), DUTY)
                self.same(deep, must(1, 1, 2, duty(0, 0, 1, breach(1), OVER), DUTY))

    def test_a_duty_of_which_nothing_comes_is_not_over(self):
        for duty in DUTIES:
            numbers = duty(0, 0, 0, OVER, OVER)
            self.same(both(numbers, OVER), numbers)
            self.same(both(numbers, numbers), both(numbers, numbers))

    def test_after_a_day(self):
        ends = may(0, 0, 0, OVER, OVER)
        stays = may(1, 1, 2, OVER, breach(0))
        still = may(1, 1, 1, OVER, breach(0))
        for numbers in (both(ends, stays), both(stays, ends), both(both(ends, ends), both(stays, ends)),
                        both(both(ends, both(ends, stays)), ends)):
            self.assertEqual(last(agree(numbers), day(0, 0), LEFT), told(still), numbers)
        self.assertEqual(last(agree(both(ends, both(ends, ends))), day(1, 0), LEFT), [1, 0])
        self.assertEqual(last(agree(both(stays, both(ends, stays))), day(1, 0), LEFT), told(both(still, still)))
        self.assertEqual(last(agree(both(both(stays, ends), both(ends, stays))), day(1, 0), LEFT),
                         told(both(still, still)))

    def test_after_a_day_within_c_and_d(self):
        first = must(0, 0, 0, both(OVER, DUTY), both(both(OVER, OVER), OVER))
        self.assertEqual(last(agree(first), day(1, 0), LEFT), told(DUTY))
        self.assertEqual(last(agree(first), day(0, 0), LEFT), [1, 0])
        self.assertEqual(last(agree(both(first, DUTY)), day(0, 0), LEFT), told(must(1, 0, 2, OVER, breach(1))))

    def test_after_add(self):
        for nothing in NOTHING:
            self.assertEqual(last(add(nothing), LEFT), [1, 0])
            self.assertEqual(last(agree(DUTY), add(nothing), LEFT), told(DUTY))
            self.assertEqual(last(agree(nothing), add(DUTY), LEFT), told(DUTY))
            self.assertEqual(last(agree(breach(0)), add(nothing), add(DUTY), LEFT), told(both(breach(0), DUTY)))


class OnceAdded(unittest.TestCase):

    def test_what_was_left_stands_first(self):
        self.assertEqual(last(agree(DUTY), add(breach(0)), LEFT), told(both(DUTY, breach(0))))
        self.assertEqual(last(agree(breach(0)), add(DUTY), LEFT), told(both(breach(0), DUTY)))
        self.assertEqual(last(add(breach(0)), add(breach(1)), add(DUTY), LEFT),
                         told(both(both(breach(0), breach(1)), DUTY)))
        self.assertEqual(last(agree(DUTY), add(both(breach(0), breach(1))), LEFT),
                         told(both(DUTY, both(breach(0), breach(1)))))

    def test_agree_leaves_nothing_of_what_was(self):
        self.assertEqual(last(agree(DUTY), add(DUTY), agree(breach(0)), LEFT), told(breach(0)))
        self.assertEqual(last(agree(DUTY), agree(OVER), LEFT), [1, 0])


class Days(unittest.TestCase):

    def test_the_days_that_are_left(self):
        for duty in DUTIES:
            for p in (0, 1):
                given = ask(agree(duty(p, 1, 9, breach(0), DUTY)), *([day(1, 1), LEFT] * 10))
                for past in range(1, 10):
                    self.assertEqual(given[2 * past], told(duty(p, 1, 9 - past, breach(0), DUTY)))
                self.assertEqual(given[20], told(DUTY))
                self.assertEqual(last(agree(duty(p, 1, 9, breach(0), DUTY)), day(2, 2), LEFT), told(breach(0)))

    def test_within_c_and_d_none_go_by(self):
        self.assertEqual(last(agree(must(0, 0, 5, DUTY, DUTY)), day(0, 0), day(0, 0), LEFT),
                         told(must(0, 0, 3, DUTY, DUTY)))

    def test_each_of_both_goes_on_by_itself(self):
        numbers = both(must(0, 0, 2, breach(1), OVER), both(mustnt(1, 1, 0, DUTY, breach(1)), may(0, 1, 4, OVER, DUTY)))
        self.assertEqual(last(agree(numbers), day(1, 0), LEFT),
                         told(both(breach(1), both(breach(1), may(0, 1, 3, OVER, DUTY)))))
        self.assertEqual(last(agree(numbers), day(2, 2), LEFT), told(both(must(0, 0, 1, breach(1), OVER), DUTY)))

    def test_breach_stays(self):
        self.assertEqual(last(agree(both(breach(0), breach(1))), *([day(3, 3)] * 10), LEFT), [5, 5, 1, 0, 1, 1])


class AsItWas(unittest.TestCase):

    def test_after_what_is_refused(self):
        ahead = (agree(both(DUTY, breach(0))), day(0, 0))
        wanted = told(both(must(1, 0, 2, OVER, breach(1)), breach(0)))
        for numbers in NOT_JUST_AN_AGREEMENT:
            self.assertEqual(ask(*ahead, agree(numbers), LEFT, add(numbers), LEFT)[2:], [[-1], wanted] * 2, numbers)
            self.assertEqual(ask(agree(numbers), LEFT, add(numbers), LEFT), [[-1], [1, 0]] * 2, numbers)
        self.assertEqual(ask(*ahead, day(4, 0), LEFT, day(0, 4), LEFT)[2:], [[-1], wanted] * 2)

    def test_changes_nothing(self):
        given = ask(agree(both(DUTY, breach(0))), STANDS, WHO, LEFT, LEFT, STANDS, WHO, day(0, 0))
        self.assertEqual(given[1:3], given[5:7])
        self.assertEqual(given[3], given[4])
        self.assertEqual(given[7], [1, 0])

    def test_agreed_again_is_the_same_again(self):
        for numbers in (OVER, DUTY, both(both(OVER, DUTY), both(breach(0), OVER)),
                        must(0, 1, 2, both(OVER, OVER), both(DUTY, both(OVER, breach(1))))):
            for days in range(6):
                left = last(agree(numbers), *([day(0, 0)] * days), LEFT)
                self.assertEqual(last(agree(left[1:]), LEFT), left)


if __name__ == "__main__":
    unittest.main()
