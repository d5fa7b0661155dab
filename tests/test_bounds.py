"""Lines as long, as deep and as wide as the document lets them be."""

import functools
import random
import unittest

from dutydays.agreed import answers
from helper import LEFT, OVER, STANDS, WHO, add, agree, ask, both, breach, day, last, may, must, mustnt, safe, today
from test_by_words import ACTS, read_all, tomorrow

LOOKS = (safe(0), today(0), safe(1), today(1), safe(0), today(1))


def filled(part, rest=OVER):
    """As many of the part, beside the rest, as 100 numbers can tell; filled up with what's over."""
    numbers = rest
    while len(numbers) + len(part) + 1 <= 100:
        numbers = both(part, numbers)
    while len(numbers) + 2 <= 100:
        numbers = both(OVER, numbers)
    return numbers


class SixtyCalls(unittest.TestCase):

    def test_of_each_sort(self):
        self.assertEqual(answers(WHO * 60), [2, -1, -1] * 60)
        self.assertEqual(answers(LEFT * 60), [2, 1, 0] * 60)
        self.assertEqual(answers(sum(LOOKS, []) + WHO * 54), [1, 1, 1, 0] * 3 + [2, -1, -1] * 54)

    def test_the_last_day(self):
        told = must(1, 0, 9, OVER, breach(1))
        given = ask(*([day(0, 0)] * 48), add(told), *([day(3, 2)] * 10), WHO)
        self.assertEqual(given[-2:], [[58, 1], [-1, 58]])

    def test_left_of_all_that_was_added(self):
        numbers = filled(must(0, 0, 3, OVER, breach(0)), breach(1))
        told = last(agree(numbers), LEFT)[1:]
        given = last(*([add(numbers)] * 59), LEFT)
        self.assertEqual(given, [58 + 59 * len(told)] + [5] * 58 + told * 59)

    def test_longest_list_of_calls(self):
        numbers = filled(may(1, 1, 9, breach(0), breach(1)), breach(0))
        calls = add(numbers) * 60
        self.assertEqual(len(calls), 6120)
        self.assertEqual(answers(calls), [1, 10] * 60)


class Deep(unittest.TestCase):

    def test_both_within_both(self):
        core = must(0, 0, 4, OVER, breach(0))
        first, second = core, core
        while len(first) + 3 <= 100:
            first = both(first, breach(1))
            second = both(breach(1), second)
        for numbers in (first, second):
            given = ask(agree(numbers), LEFT, WHO, safe(0), today(0), safe(1), today(1), *([day(0, 0)] * 4),
                        today(0), day(1, 0), safe(0))
            self.assertEqual(given[1:7], [[len(numbers)] + numbers, [-1, 0], [1], [0], [0], [-6]])
            self.assertEqual(given[11:], [[1], [5, 1], [1]])

    def test_both_within_c_and_d(self):
        core = must(0, 1, 1, OVER, breach(0))
        first, second = core, core
        while len(first) + 3 <= 48:
            first = both(first, breach(1))
            second = both(breach(1), second)
        numbers = must(1, 0, 2, first, second)
        self.assertLessEqual(len(numbers), 100)
        given = ask(agree(numbers), LEFT, safe(0), today(0), safe(1), day(0, 1), safe(0), WHO, LEFT,
                    day(0, 0), today(0))
        self.assertEqual(given[:5], [[5], [len(numbers)] + numbers, [1], [0], [0]])
        self.assertEqual(given[6:9], [[1], [-1, 1], [len(first)] + first])
        self.assertEqual(given[10], [2])

    def test_duty_within_duty(self):
        for duty in (must, mustnt, may):
            in_done = in_undone = breach(0)
            while len(in_done) + 5 <= 100:
                in_done = duty(0, 0, 0, in_done, OVER)
                in_undone = duty(0, 0, 0, OVER, in_undone)
            for numbers, choice in ((in_done, 1), (in_undone, 0)):
                given = ask(agree(numbers), LEFT, safe(0), *([day(choice, 0)] * 14), safe(0), today(0),
                            *([day(choice, 0)] * 4), today(0), day(choice, 0), today(0), WHO)
                self.assertEqual(given[0:3], [[19], [len(numbers)] + numbers, [-5]])
                self.assertEqual(given[17:19], [[1], [0]])
                self.assertEqual(given[23], [0 if choice else 1])
                self.assertEqual(given[25:], [[-6], [19, -1]])

    def test_over_within_over(self):
        first = second = OVER
        while len(first) + 2 <= 100:
            first = both(first, OVER)
            second = both(OVER, second)
        for numbers in (first, second):
            self.assertEqual(ask(agree(numbers), LEFT, safe(0), today(0), *([add(numbers)] * 50), LEFT, today(1))[1:4],
                             [[1, 0], [1], [0]])


class Wide(unittest.TestCase):

    def looks(self, agreements, wanted):
        given = ask(*[add(numbers) for numbers in agreements], *LOOKS)
        self.assertEqual(given[len(agreements) - 1], [5])
        self.assertEqual(given[-6:], wanted)

    def test_kept_by_one_way_alone(self):
        never = filled(mustnt(0, 0, 4, breach(0), OVER))
        always = filled(must(0, 1, 0, OVER, breach(0)))
        other = filled(must(1, 0, 0, must(1, 0, 3, OVER, breach(1)), breach(1)))
        told = [never] * 20 + [always] * 17 + [other] * 17
        self.looks(told, [[1], [2], [1], [1], [1], [1]])
        self.looks(told[:-1] + [must(0, 0, 4, OVER, breach(0))], [[0], [-6], [1], [1], [0], [1]])
        self.looks(told[:-1] + [must(1, 1, 4, OVER, breach(0))], [[0], [-6], [1], [1], [0], [1]])

    def test_all_is_left_by_the_looks(self):
        told = [filled(mustnt(0, 0, 4, breach(0), OVER))] * 40
        looks = (WHO, STANDS, LEFT)
        given = ask(*[add(numbers) for numbers in told], *looks, *LOOKS, *looks, day(0, 0))
        self.assertEqual(given[40:43], given[49:52])
        self.assertEqual(given[52], [1, 0])

    def test_against_a_second_reading(self):
        chance = random.Random(31)
        seen = []
        for own in (3, 5, 7, 10):
            for count in (2, 5, 10, 20, 30, 40, 54):
                told = [long_traps(chance, own) for _ in range(count)]
                first, second = lowest(told, 0), lowest(told, 1)
                self.looks(told, [[int(first >= 0)], [first], [int(second >= 0)], [second],
                                  [int(first >= 0)], [second]])
                seen.append((count, first >= 0))
        # Hard either way: at many there's still a way, and at few there's none.
        self.assertIn((54, True), seen)
        self.assertIn((10, False), seen)

    def test_trees_that_remember_what_was_done(self):
        chance = random.Random(32)
        for way in range(4):
            told = [remembering(chance, way) for _ in range(54)]
            given = ask(*[add(numbers) for numbers in told], *LOOKS)[-6:]
            self.assertEqual(given, [[1], [way], [1], [0], [1], [0]])


def remembering(chance, way):
    """A tree by all of whose ways, but those on which party 0 does today otherwise than this, it's never in breach."""

    def tree(days):
        if days == 0:
            return OVER
        head = [chance.choice((2, 3, 4)), chance.randrange(2), chance.randrange(2), 0]
        return head + tree(days - 1) + tree(days - 1)

    act = chance.randrange(2)
    lost = must(1, 0, 3, breach(0), OVER)
    return must(0, act, 0, tree(4), lost) if way >> act & 1 else must(0, act, 0, lost, tree(4))


def long_traps(chance, own):
    """Three of 5 days each, by just one way of which party 0 is in breach; own tenths of the acts are its own."""
    return both(both(long_trap(chance, own), long_trap(chance, own)), long_trap(chance, own))


def long_trap(chance, own):
    numbers = breach(0)
    for later in range(5):
        who = 0 if later == 0 or chance.randrange(10) < own else 1
        behind = [numbers, OVER]
        chance.shuffle(behind)
        numbers = [chance.choice((2, 3, 4)), who, chance.randrange(2), 0] + behind[0] + behind[1]
    return numbers


def parts(told):
    if told["kind"] == 5:
        return parts(told["first"]) | parts(told["second"])
    return frozenset([frozen(told)])


def frozen(told):
    return tuple(sorted((name, frozen(value) if isinstance(value, dict) else value) for name, value in told.items()))


def thawed(part):
    return {name: thawed(value) if isinstance(value, tuple) else value for name, value in part}


@functools.lru_cache(maxsize=None)
def part_after(part, acts):
    return parts(tomorrow(thawed(part), (ACTS[acts[0]], ACTS[acts[1]])))


@functools.lru_cache(maxsize=None)
def in_breach(part, p):
    told = dict(part)
    return told["kind"] == 1 and told["p"] == p


@functools.lru_cache(maxsize=None)
def lowest_of(standing, p):
    """The lowest choice by which p can keep out of breach, by all that stands; -6 if there's none."""
    if any(in_breach(part, p) for part in standing):
        return -6
    standing = frozenset(part for part in standing if dict(part)["kind"] > 1)
    if not standing:
        return 0
    for choice in range(4):
        for others in range(4):
            acts = (choice, others) if p == 0 else (others, choice)
            if lowest_of(frozenset().union(*[part_after(part, acts) for part in standing]), p) < 0:
                break
        else:
            return choice
    return -6


def lowest(agreements, p):
    return lowest_of(frozenset().union(*[parts(read_all(numbers)) for numbers in agreements]), p)


if __name__ == "__main__":
    unittest.main()
