"""Nothing that's over stands beside anything: the module beneath the calls is asked, as test_left asks left."""

import unittest

from dutydays.agreement import after_day, agreement_of
from helper import OVER, both, breach, may, must, mustnt

DUTY = must(1, 0, 3, OVER, breach(1))
NOTHING = (OVER, both(OVER, OVER), both(both(OVER, OVER), OVER), both(OVER, both(OVER, OVER)))


class BesideAnything(unittest.TestCase):

    def same(self, told, plain):
        self.assertEqual(agreement_of(told), agreement_of(plain), told)

    def test_on_top(self):
        for nothing in NOTHING:
            self.same(nothing, OVER)
            for something in (DUTY, breach(0), both(DUTY, breach(0))):
                self.same(both(nothing, something), something)
                self.same(both(something, nothing), something)

    def test_within_c_and_d(self):
        for duty in (must, mustnt, may):
            for nothing in NOTHING:
                self.same(duty(0, 0, 1, both(nothing, DUTY), nothing), duty(0, 0, 1, DUTY, OVER))
                self.same(duty(0, 0, 1, nothing, both(DUTY, nothing)), duty(0, 0, 1, OVER, DUTY))

    def test_what_is_not_over_stays_both(self):
        self.assertNotEqual(agreement_of(both(DUTY, DUTY)), agreement_of(DUTY))
        self.assertNotEqual(agreement_of(both(breach(0), DUTY)), agreement_of(DUTY))
        self.assertNotEqual(agreement_of(both(both(DUTY, DUTY), DUTY)),
                            agreement_of(both(DUTY, both(DUTY, DUTY))))

    def test_what_gets_over_on_a_day(self):
        ends = may(0, 0, 0, OVER, OVER)
        stays = may(1, 1, 2, OVER, breach(0))
        left = agreement_of(may(1, 1, 1, OVER, breach(0)))
        for told in (both(ends, stays), both(stays, ends), both(both(ends, ends), both(stays, ends))):
            self.assertEqual(after_day(agreement_of(told), (0, 0)), left, told)
        self.assertEqual(after_day(agreement_of(both(ends, both(ends, ends))), (1, 0)), agreement_of(OVER))


if __name__ == "__main__":
    unittest.main()
