import unittest

from helper import OVER, STANDS, add, agree, ask, both, breach, day, doing, last, may, must, mustnt

DUTIES = (must, mustnt, may)

# What C and D lead to can be told apart by what stands then.
THEN_DONE = may(0, 0, 8, OVER, OVER)
THEN_UNDONE = may(1, 1, 9, OVER, OVER)
DONE = [1, 2, 0, 0, 8]
UNDONE = [1, 2, 1, 1, 9]


class OneDuty(unittest.TestCase):

    def each(self):
        for kind, duty in enumerate(DUTIES):
            for p in (0, 1):
                for act in (0, 1):
                    yield kind, p, act, lambda k: duty(p, act, k, THEN_DONE, THEN_UNDONE)

    def test_done_at_once(self):
        for kind, p, act, told in self.each():
            for k in (0, 1, 9):
                given = ask(agree(told(k)), doing(p, 1 << act), STANDS)
                self.assertEqual(given[1:], [[1, 0], DONE], (kind, p, act, k))

    def test_done_on_each_later_day_up_to_the_last(self):
        for kind, p, act, told in self.each():
            for k in (1, 2, 9):
                for before in range(1, k + 1):
                    given = ask(agree(told(k)), *([day(0, 0)] * before), STANDS,
                                doing(p, 1 << act), STANDS)
                    self.assertEqual(given[before + 1], [1, kind, p, act, k - before])
                    self.assertEqual(given[before + 2:], [[before + 1, 0], DONE])

    def test_never_done(self):
        for kind, p, act, told in self.each():
            for k in (0, 1, 9):
                given = ask(agree(told(k)), *([day(0, 0)] * k), STANDS, day(0, 0), STANDS)
                self.assertEqual(given[k + 1:], [[1, kind, p, act, 0], [k + 1, 0], UNDONE])

    def test_done_a_day_too_late(self):
        for kind, p, act, told in self.each():
            given = ask(agree(told(1)), day(0, 0), day(0, 0), doing(p, 3), STANDS)
            self.assertEqual(given[3][0], 3)
            # What's agreed since is somebody's may: party 1's act 1 ends it, nothing of party 0's.
            self.assertEqual(given[4], [0] if p == 1 else [1, 2, 1, 1, 8])

    def test_the_other_party_or_the_other_act_does_not_count(self):
        for kind, p, act, told in self.each():
            still = [1, kind, p, act, 3]
            other_act = 1 << (1 - act)
            for choice in (0, other_act):
                for others in range(4):
                    given = ask(agree(told(4)), doing(p, choice, others), STANDS)
                    self.assertEqual(given[1:], [[1, 0], still], (kind, p, act, choice, others))

    def test_choices_0_to_3_of_each_party(self):
        for kind, p, act, told in self.each():
            for a in range(4):
                for b in range(4):
                    acts = {0: [], 1: [0], 2: [1], 3: [0, 1]}[(a, b)[p]]
                    wanted = DONE if act in acts else UNDONE
                    given = last(agree(told(0)), day(a, b), STANDS)
                    self.assertEqual(given, wanted, (kind, p, act, a, b))

    def test_c_and_d_begin_on_the_next_day(self):
        inner = must(0, 0, 0, OVER, breach(0))
        for duty in DUTIES:
            given = ask(agree(duty(0, 0, 0, inner, OVER)), day(1, 0), STANDS, day(0, 0), STANDS)
            self.assertEqual(given, [[2], [1, 0], [1, 0, 0, 0, 0], [2, 1], [0]])
            given = ask(agree(duty(0, 1, 0, OVER, inner)), day(1, 0), STANDS, day(1, 0), STANDS)
            self.assertEqual(given, [[2], [1, 0], [1, 0, 0, 0, 0], [2, 1], [0]])


class Both(unittest.TestCase):

    def test_go_on_at_once_by_the_same_acts(self):
        same = both(must(0, 0, 3, THEN_DONE, OVER), mustnt(0, 0, 0, THEN_DONE, THEN_UNDONE))
        self.assertEqual(last(agree(same), day(1, 0), STANDS), [2] + DONE[1:] * 2)
        self.assertEqual(last(agree(same), day(2, 3), STANDS), [2, 0, 0, 0, 2] + UNDONE[1:])

    def test_each_goes_on_by_itself(self):
        two = both(must(0, 0, 2, THEN_DONE, OVER), must(1, 1, 2, THEN_UNDONE, OVER))
        self.assertEqual(last(agree(two), day(1, 0), STANDS), [2] + DONE[1:] + [0, 1, 1, 1])
        self.assertEqual(last(agree(two), day(0, 2), STANDS), [2, 0, 0, 0, 1] + UNDONE[1:])
        self.assertEqual(last(agree(two), day(1, 2), STANDS), [2] + DONE[1:] + UNDONE[1:])
        self.assertEqual(last(agree(two), day(2, 1), STANDS), [2, 0, 0, 0, 1, 0, 1, 1, 1])

    def test_one_side_gets_over(self):
        first = must(0, 0, 1, OVER, breach(0))
        second = may(1, 0, 4, OVER, OVER)
        self.assertEqual(ask(agree(both(first, second)), day(1, 0), STANDS, add(breach(0)), day(0, 1)),
                         [[5], [1, 0], [1, 2, 1, 0, 3], [4], [2, 1]])
        self.assertEqual(ask(agree(both(first, second)), day(0, 1), STANDS, day(1, 0), STANDS),
                         [[5], [1, 0], [1, 0, 0, 0, 0], [2, 1], [0]])
        self.assertEqual(ask(agree(both(second, first)), day(1, 1), STANDS), [[5], [1, 1], [0]])

    def test_a_duty_becomes_both(self):
        two = both(must(0, 0, 1, OVER, OVER), may(1, 1, 2, OVER, OVER))
        three = both(must(1, 1, 0, two, OVER), mustnt(0, 1, 4, OVER, OVER))
        self.assertEqual(ask(agree(three), day(0, 2), STANDS, day(1, 0), STANDS),
                         [[5], [1, 0], [3, 0, 0, 0, 1, 2, 1, 1, 2, 1, 0, 1, 3],
                          [2, 0], [2, 2, 1, 1, 1, 1, 0, 1, 2]])

    def test_deep_both_goes_on_everywhere(self):
        left = right = may(1, 0, 2, OVER, OVER)
        while len(left) + 7 <= 100:
            left = both(left, may(0, 0, 5, OVER, OVER))
            right = both(may(0, 0, 5, OVER, OVER), right)
        self.assertEqual(last(agree(left), day(0, 0), STANDS),
                         [14, 2, 1, 0, 1] + [2, 0, 0, 4] * 13)
        self.assertEqual(last(agree(right), day(0, 0), STANDS),
                         [14] + [2, 0, 0, 4] * 13 + [2, 1, 0, 1])
        self.assertEqual(last(agree(left), day(1, 0), STANDS), [1, 2, 1, 0, 1])
        self.assertEqual(last(agree(right), day(0, 1), STANDS), [13] + [2, 0, 0, 4] * 13)


class Settled(unittest.TestCase):

    def settled(self, numbers, *days):
        return last(agree(numbers), *days)[1]

    def test_nothing_was_ever_agreed(self):
        self.assertEqual(ask(day(0, 0), day(3, 3), day(1, 2)), [[1, 1], [2, 1], [3, 1]])

    def test_over_and_breach(self):
        for numbers in (OVER, breach(0), breach(1), both(breach(0), breach(1)),
                        both(breach(0), both(breach(1), breach(0))), both(OVER, breach(1))):
            self.assertEqual(self.settled(numbers, day(0, 3)), 1, numbers)
            self.assertEqual(self.settled(numbers, day(0, 3), day(1, 1)), 1, numbers)

    def test_not_while_a_duty_stands(self):
        for duty in DUTIES:
            told = duty(0, 0, 1, OVER, breach(0))
            for numbers in (told, both(told, breach(1)), both(breach(1), told),
                            both(breach(0), both(breach(1), told)), both(both(told, told), breach(0))):
                self.assertEqual(self.settled(numbers, day(0, 0)), 0, numbers)
                self.assertEqual(self.settled(numbers, day(1, 0)), 1, numbers)
                self.assertEqual(self.settled(numbers, day(0, 0), day(0, 0)), 1, numbers)

    def test_not_when_a_duty_follows(self):
        follows = mustnt(0, 0, 0, breach(0), OVER)
        self.assertEqual(self.settled(must(0, 0, 0, follows, breach(0)), day(1, 0)), 0)
        self.assertEqual(self.settled(must(0, 0, 0, follows, breach(0)), day(0, 0)), 1)
        self.assertEqual(self.settled(must(0, 0, 0, OVER, follows), day(0, 0)), 0)

    def test_breach_is_for_good(self):
        given = ask(agree(both(must(0, 0, 0, OVER, breach(0)), may(1, 0, 2, OVER, OVER))),
                    day(0, 0), day(1, 0), day(3, 1), day(3, 3), STANDS)
        self.assertEqual(given, [[3], [1, 0], [2, 0], [3, 1], [4, 1], [0]])

    def test_told_anew_after_an_add(self):
        self.assertEqual(ask(day(0, 0), add(may(0, 0, 1, OVER, OVER)), day(0, 0), day(0, 0)),
                         [[1, 1], [2], [2, 0], [3, 1]])


class Refusals(unittest.TestCase):

    def test_a_or_b_above_3(self):
        for a, b in ((4, 0), (0, 4), (4, 4), (1000, 0), (0, 1000), (3, 4), (4, 3), (1000, 1000), (5, 1)):
            self.assertEqual(last(day(a, b)), [-1], (a, b))

    def test_3_is_none_above(self):
        self.assertEqual(ask(day(3, 3), day(3, 0), day(0, 3)), [[1, 1], [2, 1], [3, 1]])

    def test_every_number_above_3(self):
        for number in range(4, 1001):
            self.assertEqual(ask(day(number, 0), day(0, number)), [[-1], [-1]])

    def test_a_refused_day_does_not_count(self):
        told = both(must(0, 0, 2, OVER, breach(0)), mustnt(1, 0, 5, breach(1), OVER))
        stands = [2, 0, 0, 0, 1, 1, 1, 0, 4]
        self.assertEqual(
            ask(agree(told), day(0, 0), STANDS, day(5, 0), STANDS, day(1, 5), STANDS, day(0, 0)),
            [[6], [1, 0], stands, [-1], stands, [-1], stands, [2, 0]])


if __name__ == "__main__":
    unittest.main()
