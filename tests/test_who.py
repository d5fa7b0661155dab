import unittest

from helper import LEFT, OVER, STANDS, WHO, add, agree, ask, both, breach, day, doing, last, may, must, mustnt
from helper import safe, today
from test_agree import NOT_JUST_AN_AGREEMENT

NOBODY = [-1, -1]

# In breach as day 1 begins, if nothing is done; as day 3 begins.
SOON = (must(0, 0, 0, OVER, breach(0)), must(1, 0, 0, OVER, breach(1)))
LATER = (must(0, 1, 2, OVER, breach(0)), must(1, 1, 2, OVER, breach(1)))


def since(p, date):
    """What who answers if p alone is in breach, since that day."""
    return [date, -1] if p == 0 else [-1, date]


class Nobody(unittest.TestCase):

    def test_at_the_beginning(self):
        self.assertEqual(ask(WHO), [NOBODY])
        self.assertEqual(ask(day(0, 0), WHO, day(3, 3), WHO), [[1, 1], NOBODY, [2, 1], NOBODY])

    def test_while_duties_stand_and_when_they_are_kept(self):
        told = both(SOON[0], LATER[1])
        self.assertEqual(
            ask(agree(told), WHO, day(1, 0), WHO, day(0, 0), WHO, day(0, 2), WHO, day(0, 0), WHO)[1::2],
            [NOBODY] * 5)

    def test_a_breach_within_c_and_d_is_not_agreed_yet(self):
        for duty in (must, mustnt, may):
            told = duty(0, 0, 3, breach(0), breach(1))
            self.assertEqual(ask(agree(told), WHO, day(0, 0), WHO)[1::2], [NOBODY] * 2)
            self.assertEqual(ask(add(told), WHO, day(2, 3), WHO)[1::2], [NOBODY] * 2)


class FirstDay(unittest.TestCase):

    def test_told_by_agree(self):
        self.assertEqual(last(agree(breach(0)), WHO), [0, -1])
        self.assertEqual(last(agree(breach(1)), WHO), [-1, 0])
        for told in (both(breach(0), breach(1)), both(breach(1), breach(0))):
            self.assertEqual(last(agree(told), WHO), [0, 0])

    def test_part_of_both(self):
        duty = may(0, 0, 9, OVER, OVER)
        for p in (0, 1):
            for told in (both(breach(p), duty), both(duty, breach(p)), both(OVER, breach(p)),
                         both(both(duty, both(duty, breach(p))), duty), both(duty, both(both(breach(p), duty), duty))):
                self.assertEqual(ask(agree(told), WHO, day(0, 0), WHO)[1::2], [since(p, 0)] * 2, told)
                self.assertEqual(last(day(0, 0), day(0, 0), add(told), WHO), since(p, 2), told)

    def test_after_a_day(self):
        for p in (0, 1):
            self.assertEqual(ask(agree(SOON[p]), WHO, day(0, 0), WHO)[1::2], [NOBODY, since(p, 1)])
            self.assertEqual(ask(agree(LATER[p]), day(0, 0), WHO, day(0, 0), WHO, day(0, 0), WHO)[2::2],
                             [NOBODY, NOBODY, since(p, 3)])

    def test_by_doing_it(self):
        for p in (0, 1):
            for duty in (must, mustnt, may):
                told = duty(p, 1, 5, breach(p), OVER)
                self.assertEqual(last(agree(told), day(1, 1), doing(p, 2), WHO), since(p, 2))

    def test_by_what_the_other_one_does(self):
        for p in (0, 1):
            told = must(1 - p, 0, 1, breach(p), OVER)
            self.assertEqual(last(agree(told), day(0, 0), doing(1 - p, 3), WHO), since(p, 2))
            self.assertEqual(last(agree(told), day(0, 0), doing(p, 3), WHO), NOBODY)

    def test_both_on_the_same_day(self):
        self.assertEqual(last(agree(both(SOON[0], SOON[1])), day(2, 2), WHO), [1, 1])
        self.assertEqual(last(agree(must(0, 0, 1, OVER, both(breach(1), breach(0)))), day(0, 0), day(0, 0), WHO),
                         [2, 2])

    def test_both_on_different_days(self):
        for p in (0, 1):
            told = both(SOON[p], LATER[1 - p])
            wanted = [1, 3] if p == 0 else [3, 1]
            self.assertEqual(
                ask(agree(told), day(0, 0), WHO, day(0, 0), WHO, day(0, 0), WHO)[2::2],
                [since(p, 1), since(p, 1), wanted])

    def test_brought_by_add(self):
        self.assertEqual(ask(add(breach(1)), WHO), [[0], [-1, 0]])
        self.assertEqual(
            ask(day(0, 0), add(breach(1)), WHO, day(0, 0), day(0, 0), WHO, add(breach(0)), WHO),
            [[1, 1], [0], [-1, 1], [2, 1], [3, 1], [-1, 1], [0], [3, 1]])
        self.assertEqual(last(agree(LATER[0]), day(0, 0), day(0, 0), add(both(LATER[1], breach(0))), WHO), [2, -1])

    def test_of_an_added_duty_by_the_day_it_is_then(self):
        self.assertEqual(last(agree(LATER[0]), day(0, 0), add(SOON[1]), day(0, 0), WHO), [-1, 2])


class ItStaysTheFirst(unittest.TestCase):

    def test_on_later_days(self):
        for p in (0, 1):
            given = ask(agree(SOON[p]), *([day(0, 0), WHO] * 29))
            self.assertEqual(given[2::2], [since(p, 1)] * 29)

    def test_after_a_second_breach(self):
        for p in (0, 1):
            told = both(SOON[p], LATER[p])
            self.assertEqual(last(agree(told), *([day(0, 0)] * 4), WHO), since(p, 1))
            told = both(LATER[p], SOON[p])
            self.assertEqual(last(agree(told), *([day(0, 0)] * 4), WHO), since(p, 1))
            self.assertEqual(last(agree(breach(p)), day(0, 0), add(breach(p)), WHO), since(p, 0))
            self.assertEqual(last(agree(SOON[p]), day(0, 0), day(0, 0), add(both(breach(p), breach(p))), WHO),
                             since(p, 1))

    def test_when_all_else_is_over(self):
        told = both(SOON[0], may(1, 0, 3, OVER, OVER))
        self.assertEqual(ask(agree(told), day(0, 0), day(0, 1), WHO)[2:], [[2, 1], [1, -1]])


class AgreeBeginsAnew(unittest.TestCase):

    def test_without_a_breach(self):
        for told in (OVER, LATER[0], both(LATER[0], LATER[1])):
            self.assertEqual(last(agree(both(breach(0), breach(1))), day(0, 0), agree(told), WHO), NOBODY)
            self.assertEqual(last(agree(SOON[0]), day(0, 0), day(0, 0), agree(told), WHO), NOBODY)

    def test_with_a_breach(self):
        self.assertEqual(last(agree(SOON[0]), day(0, 0), day(0, 0), agree(breach(0)), WHO), [0, -1])
        self.assertEqual(last(agree(SOON[0]), day(0, 0), day(0, 0), agree(breach(1)), WHO), [-1, 0])

    def test_and_later_in_breach_again(self):
        self.assertEqual(
            last(agree(SOON[0]), day(0, 0), agree(LATER[0]), day(0, 0), day(0, 0), day(0, 0), WHO), [3, -1])
        self.assertEqual(last(day(0, 0), day(0, 0), agree(SOON[1]), day(0, 0), WHO), [-1, 1])


class AsItWas(unittest.TestCase):

    def test_after_what_is_refused(self):
        ahead = (agree(both(SOON[1], LATER[0])), day(0, 0), day(0, 0))
        for numbers in NOT_JUST_AN_AGREEMENT:
            self.assertEqual(last(*ahead, agree(numbers), WHO), [-1, 1], numbers)
            self.assertEqual(last(*ahead, add(numbers), WHO), [-1, 1], numbers)
            self.assertEqual(last(agree(numbers), add(numbers), WHO), NOBODY, numbers)
        for a, b in ((4, 0), (0, 4), (1000, 1000)):
            self.assertEqual(last(*ahead, day(a, b), WHO), [-1, 1])
            self.assertEqual(last(*ahead, day(a, b), day(0, 0), WHO), [3, 1])

    def test_a_refused_breach_is_none(self):
        self.assertEqual(last(agree([1, 0, 0]), add([5, 1, 0]), add([1, 2]), WHO), NOBODY)

    def test_after_what_only_answers(self):
        self.assertEqual(last(agree(SOON[1]), day(0, 0), day(0, 0), STANDS, LEFT, safe(1), today(1), WHO, WHO), [-1, 1])


if __name__ == "__main__":
    unittest.main()
