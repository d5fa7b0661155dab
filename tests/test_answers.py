import inspect
import sys
import unittest

import dutydays.agreed
from helper import LEFT, OVER, STANDS, WHO, add, agree, both, breach, day, may, must, mustnt, safe, today

answers = dutydays.agreed.answers

MUST = must(0, 0, 2, OVER, breach(0))
MAY = may(1, 1, 4, OVER, OVER)

SOME_CALLS = (agree(both(MUST, MAY)) + STANDS + day(0, 0) + add([5, 0]) + day(4, 0) + STANDS
              + add(MUST) + agree([]) + day(1, 2) + STANDS + agree([1000] * 100)
              + WHO + add(both(MUST, breach(1))) + WHO + safe(0) + safe(1) + safe(2) + today(0) + today(1) + LEFT
              + add(may(0, 0, 5, OVER, OVER)) + today(0))


class ReadOnly(list):
    """A list of which any change is an error."""

    def refuse(self, *args, **named):
        raise AssertionError("what was handed in is changed")

    append = extend = insert = pop = remove = clear = sort = reverse = refuse
    __setitem__ = __delitem__ = __iadd__ = __imul__ = refuse


class Form(unittest.TestCase):

    def test_how_many_numbers_stand_ahead_of_each_answer(self):
        self.assertEqual(
            answers(SOME_CALLS),
            [1, 5,
             9, 2, 0, 0, 0, 2, 2, 1, 1, 4,
             2, 1, 0,
             1, -1,
             1, -1,
             9, 2, 0, 0, 0, 1, 2, 1, 1, 3,
             1, 4,
             1, -1,
             2, 2, 1,
             1, 0,
             1, -1,
             2, -1, -1,
             1, 3,
             2, -1, 2,
             1, 1,
             1, 0,
             1, -2,
             1, 0,
             1, -6,
             11, 10, 5, 2, 0, 0, 2, 0, 1, 0, 1, 1,
             1, 6,
             1, -5])

    def test_each_call_alone(self):
        self.assertEqual(answers([0, 1, 0]), [1, 0])
        self.assertEqual(answers([0, 0]), [1, -1])
        self.assertEqual(answers([1, 6, 3, 1, 0, 9, 0, 0]), [1, 10])
        self.assertEqual(answers([1, 0]), [1, -1])
        self.assertEqual(answers([2, 0, 0]), [2, 1, 1])
        self.assertEqual(answers([2, 1000, 0]), [1, -1])
        self.assertEqual(answers([3]), [1, 0])
        self.assertEqual(answers([4]), [2, -1, -1])
        self.assertEqual(answers([5, 0]), [1, 1])
        self.assertEqual(answers([5, 1000]), [1, -2])
        self.assertEqual(answers([6, 1]), [1, 0])
        self.assertEqual(answers([6, 2]), [1, -2])
        self.assertEqual(answers([7]), [2, 1, 0])

    def test_each_call_has_its_own_numbers_alone(self):
        # What p is looks like a call's number, and is none.
        self.assertEqual(answers([5, 3, 3, 6, 7, 7, 5, 1, 4]), [1, -2, 1, 0, 1, -2, 2, 1, 0, 1, 1, 2, -1, -1])

    def test_an_agreement_ends_where_its_count_says(self):
        # The numbers behind would make it whole, or are too many: neither is looked at.
        self.assertEqual(answers([0, 1, 5, 2, 0, 0]), [1, -1, 2, 1, 1])
        self.assertEqual(answers([0, 2, 5, 0, 0, 1, 0]), [1, -1, 1, 0])
        self.assertEqual(answers([0, 1, 0, 0, 1, 0]), [1, 0, 1, 0])

    def test_sixty_calls(self):
        self.assertEqual(answers([2, 0, 0] * 60), [number for date in range(1, 61) for number in (2, date, 1)])
        self.assertEqual(answers([3] * 60), [1, 0] * 60)

    def test_whole_numbers_in_a_list(self):
        given = answers(SOME_CALLS)
        self.assertIs(type(given), list)
        self.assertEqual({type(number) for number in given}, {int})

    def test_a_number_that_is_no_call_is_an_error(self):
        for number in (8, 9, 1000):
            with self.assertRaises(ValueError):
                answers([number])

    def test_its_one_argument(self):
        self.assertEqual(list(inspect.signature(answers).parameters), ["calls"])
        self.assertEqual(answers(calls=[3]), [1, 0])


class NothingIsKept(unittest.TestCase):

    def test_what_is_handed_in_is_as_it_was(self):
        calls = list(SOME_CALLS)
        answers(calls)
        self.assertEqual(calls, SOME_CALLS)

    def test_what_is_handed_in_is_not_changed_for_a_while_either(self):
        self.assertEqual(answers(ReadOnly(SOME_CALLS)), answers(SOME_CALLS))

    def test_twice_gives_the_same_twice(self):
        calls = list(SOME_CALLS)
        first = answers(calls)
        self.assertEqual(answers(calls), first)
        self.assertIsNot(answers(calls), first)

    def test_begins_anew_each_time(self):
        answers(agree(both(MUST, breach(1))) + day(0, 0) + safe(0) + today(1) + WHO)
        self.assertEqual(answers(STANDS + WHO + LEFT + safe(1) + today(1) + day(0, 0)),
                         [1, 0, 2, -1, -1, 2, 1, 0, 1, 1, 1, 0, 2, 1, 1])

    def test_a_list_given_back_may_be_changed(self):
        first = answers(SOME_CALLS)
        wanted = list(first)
        first.clear()
        self.assertEqual(answers(SOME_CALLS), wanted)


def depth():
    frame = sys._getframe()
    count = 0
    while frame is not None:
        frame = frame.f_back
        count += 1
    return count


class CallsWithinOneAnother(unittest.TestCase):

    def test_stay_few_however_deep_the_agreement(self):
        duties = boths = right = may(0, 0, 2, OVER, OVER)
        while len(duties) + 5 <= 100:
            duties = mustnt(1, 0, 0, OVER, duties)
        while len(boths) + 3 <= 100:
            boths = both(boths, breach(1))
            right = both(breach(0), right)
        self.few((add(duties) + add(boths) + add(right)) * 17 + STANDS + WHO + LEFT + (day(0, 0) + STANDS + LEFT) * 2)

    def test_stay_few_however_deep_the_look_ahead(self):
        deep = must(0, 0, 0, OVER, breach(0))
        while len(deep) + 3 <= 80:
            deep = both(deep, breach(1))
        for _ in range(4):
            deep = may(1, 0, 0, OVER, deep)
        given = self.few(add(deep) * 54 + safe(0) + today(0) + safe(1) + LEFT + day(0, 0) + today(0))
        self.assertEqual(given[:2 * 57], [1, 5] * 54 + [1, 1, 1, 0, 1, 1])
        self.assertEqual(given[-5:], [2, 1, 0, 1, 0])

    def few(self, calls):
        wanted = answers(calls)
        limit = sys.getrecursionlimit()
        # Far fewer than the 60 adds and than the 49 boths that are nested here.
        sys.setrecursionlimit(depth() + 25)
        try:
            given = answers(calls)
        finally:
            sys.setrecursionlimit(limit)
        self.assertEqual(given, wanted)
        return given


if __name__ == "__main__":
    unittest.main()
