"""Many lines of calls, against a second reading of the document's words, by recursion."""

import itertools
import random
import unittest

from dutydays.agreed import answers
from helper import LEFT, STANDS, WHO, add, agree, ask, both, day, doing, safe, today


class Wrong(Exception):
    pass


def read(numbers):
    """One agreement from the front of the numbers, and what is behind it."""
    if not numbers or numbers[0] > 5:
        raise Wrong
    kind, rest = numbers[0], numbers[1:]
    if kind == 0:
        return {"kind": 0}, rest
    if kind == 5:
        first, rest = read(rest)
        second, rest = read(rest)
        return {"kind": 5, "first": first, "second": second}, rest
    if not rest or rest[0] > 1:
        raise Wrong
    if kind == 1:
        return {"kind": 1, "p": rest[0]}, rest[1:]
    if len(rest) < 3 or rest[1] > 1 or rest[2] > 9:
        raise Wrong
    done, behind = read(rest[3:])
    undone, behind = read(behind)
    return {"kind": kind, "p": rest[0], "act": rest[1], "k": rest[2], "done": done, "undone": undone}, behind


def read_all(numbers):
    told, rest = read(numbers)
    if rest:
        raise Wrong
    return told


def long(told):
    if told["kind"] in (0, 1):
        return 0
    if told["kind"] == 5:
        return max(long(told["first"]), long(told["second"]))
    return told["k"] + 1 + max(long(told["done"]), long(told["undone"]))


def settled(told):
    if told["kind"] == 5:
        return settled(told["first"]) and settled(told["second"])
    return told["kind"] in (0, 1)


def tomorrow(told, acts):
    if told["kind"] in (0, 1):
        return told
    if told["kind"] == 5:
        return {"kind": 5, "first": tomorrow(told["first"], acts), "second": tomorrow(told["second"], acts)}
    if told["act"] in acts[told["p"]]:
        return told["done"]
    if told["k"] == 0:
        return told["undone"]
    return dict(told, k=told["k"] - 1)


def standing(told):
    if told["kind"] in (0, 1):
        return []
    if told["kind"] == 5:
        return standing(told["first"]) + standing(told["second"])
    return [[told["kind"] - 2, told["p"], told["act"], told["k"]]]


ACTS = ([], [0], [1], [0, 1])


def in_breach(told, p):
    if told["kind"] == 5:
        return in_breach(told["first"], p) or in_breach(told["second"], p)
    return told["kind"] == 1 and told["p"] == p


def after(told, p, choice, others):
    """Tomorrow, if p makes this choice and the other one the other."""
    acts = (ACTS[choice], ACTS[others])
    return tomorrow(told, acts if p == 0 else acts[::-1])


def keeps_out(told, p):
    if in_breach(told, p):
        return False
    return settled(told) or has_to_do(told, p) is not None


def has_to_do(told, p):
    """The lowest choice by which p can keep out of breach from tomorrow on, or None."""
    for choice in range(4):
        if all(keeps_out(after(told, p, choice, others), p) for others in range(4)):
            return choice
    return None


def numbers_left(told):
    if told["kind"] == 0:
        return [0]
    if told["kind"] == 1:
        return [1, told["p"]]
    if told["kind"] == 5:
        parts = [numbers_left(part) for part in (told["first"], told["second"])]
        parts = [part for part in parts if part != [0]]
        return [5] + parts[0] + parts[1] if len(parts) == 2 else sum(parts, []) or [0]
    return ([told["kind"], told["p"], told["act"], told["k"]]
            + numbers_left(told["done"]) + numbers_left(told["undone"]))


def look_ahead(told, call):
    """What safe and today answer."""
    p = call[1]
    if p > 1:
        return -2
    if long(told) > 5:
        return -5
    if call[0] == 5:
        return int(keeps_out(told, p))
    choice = has_to_do(told, p)
    return -6 if choice is None else choice


def by_words(line):
    told, date, first, given = {"kind": 0}, 0, [-1, -1], []
    for call in line:
        if call[0] in (0, 1):
            try:
                new = read_all(call[2:])
            except Wrong:
                given += [1, -1]
                continue
            if call[0] == 0:
                told, date, first = new, 0, [-1, -1]
            else:
                told = {"kind": 5, "first": told, "second": new}
            given += [1, long(told)]
        elif call[0] == 2:
            if max(call[1:]) > 3:
                given += [1, -1]
                continue
            told = tomorrow(told, (ACTS[call[1]], ACTS[call[2]]))
            date += 1
            given += [2, date, int(settled(told))]
        elif call[0] == 3:
            duties = standing(told)
            given += [1 + 4 * len(duties), len(duties)] + sum(duties, [])
        elif call[0] == 4:
            given += [2] + first
        elif call[0] == 7:
            numbers = numbers_left(told)
            given += [1 + len(numbers), len(numbers)] + numbers
        else:
            given += [1, look_ahead(told, call)]
        first = [date if first[p] < 0 and in_breach(told, p) else first[p] for p in (0, 1)]
    return given


def some_agreement(chance, deep):
    kind = chance.choice((0, 1, 2, 3, 4, 5, 5) if deep > 0 else (0, 1))
    if kind == 0:
        return [0]
    if kind == 1:
        return [1, chance.randrange(2)]
    head = [5] if kind == 5 else [kind, chance.randrange(2), chance.randrange(2),
                                  chance.choice((0, 0, 1, 1, 2, 3, 9))]
    return head + some_agreement(chance, deep - 1) + some_agreement(chance, deep - 1)


def some_numbers(chance):
    """An agreement of at most 100 numbers, or now and then one that has been spoilt."""
    numbers = [0] * 101
    while len(numbers) > 100:
        numbers = some_agreement(chance, chance.randrange(6))
    if chance.randrange(5) > 0:
        return numbers
    at = chance.randrange(len(numbers))
    harm = chance.randrange(4)
    if harm == 0:
        return numbers[:at]
    if harm == 1:
        return (numbers + [chance.randrange(7)])[:100]
    if harm == 2:
        return numbers[:at] + numbers[at + 1:]
    return numbers[:at] + [chance.choice((0, 1, 2, 3, 4, 5, 6, 9, 10, 1000))] + numbers[at + 1:]


def some_short_agreement(chance, days):
    """One that is at most so many days long."""
    kind = chance.choice((0, 1, 2, 3, 4, 5) if days > 0 else (0, 0, 1))
    if kind == 0:
        return [0]
    if kind == 1:
        return [1, chance.randrange(2)]
    if kind == 5:
        return both(some_short_agreement(chance, days), some_short_agreement(chance, days))
    k = chance.choice((0, 0, 0, chance.randrange(days)))
    behind = [some_short_agreement(chance, days - k - 1) for _ in range(2)]
    return [kind, chance.randrange(2), chance.randrange(2), k] + behind[0] + behind[1]


def some_short_numbers(chance, days):
    numbers = [0] * 101
    while not 4 < len(numbers) <= 100:
        numbers = some_short_agreement(chance, days)
    return numbers


def some_trap(chance, p, days):
    """One in which p is in breach by few ways alone that the days may go, the last act of which is its own."""
    k = chance.choice((0, 0, 0, chance.randrange(days)))
    last = days - k == 1
    who = p if last or chance.randrange(2) == 0 else 1 - p
    behind = [[1, p] if last else some_trap(chance, p, chance.randrange(1, days - k)), [0]]
    chance.shuffle(behind)
    return [chance.choice((2, 3, 4)), who, chance.randrange(2), k] + behind[0] + behind[1]


def some_traps(chance, days):
    """So many of them for a party or for both that it's hard to tell whether one can keep out of all."""
    hunted = chance.choice(((0,), (1,), (0, 1)))
    numbers = some_trap(chance, hunted[0], days)
    for _ in range(chance.randrange(4 * days)):
        more = both(numbers, some_trap(chance, chance.choice(hunted), chance.randrange(1, days + 1)))
        numbers = more if len(more) <= 100 else numbers
    return numbers


def some_call(chance):
    sort = chance.randrange(26)
    if sort == 0:
        return agree(some_numbers(chance))
    if sort < 5:
        return add(some_numbers(chance))
    if sort == 5:
        return day(chance.choice((0, 3, 4, 1000)), chance.choice((0, 3, 4, 1000)))
    if sort < 14:
        return day(chance.randrange(4), chance.randrange(4))
    if sort < 18:
        return STANDS
    return WHO if sort < 22 else LEFT


def some_look_ahead(chance):
    return chance.choice((safe, today))(chance.choice((0, 0, 0, 0, 1, 1, 1, 1, 2, 1000)))


def some_line(chance):
    """1 to 60 calls, of which at most 6 are safe and today."""
    line = [some_call(chance) for _ in range(chance.randrange(1, 55))]
    for _ in range(chance.randrange(7)):
        line.insert(chance.randrange(len(line) + 1), some_look_ahead(chance))
    return line


def some_short_line(chance, days, some):
    """A few days, each with a look ahead at what is short enough to be answered."""
    line = [agree(some(chance, days))]
    for _ in range(3):
        line += [some_look_ahead(chance), some_look_ahead(chance), WHO, LEFT]
        if chance.randrange(3) == 0:
            line.append(add(some(chance, min(days, 2))))
        line += [day(chance.randrange(4), chance.randrange(4)), STANDS]
    return line


def strategies(days):
    """Every way to act: for each row of what the other one did on the days before, a choice.

    What it did itself then is told by the way to act.
    """
    rows = [row for past in range(days) for row in itertools.product(range(4), repeat=past)]
    for choices in itertools.product(range(4), repeat=len(rows)):
        yield dict(zip(rows, choices))


def never_in_breach(told, p, strategy, others):
    """Whether p, who acts by this, is never in breach if the other one acts like that."""
    if in_breach(told, p):
        return False
    for past, choice in enumerate(others):
        told = after(told, p, strategy[others[:past]], choice)
        if in_breach(told, p):
            return False
    return True


def ways_that_keep_out(told, p, days):
    rows = list(itertools.product(range(4), repeat=days))
    return [way for way in strategies(days) if all(never_in_breach(told, p, way, others) for others in rows)]


class ByWords(unittest.TestCase):

    def test_many_lines(self):
        chance = random.Random(20)
        for _ in range(1500):
            line = some_line(chance)
            self.assertEqual(answers(sum(line, [])), by_words(line), line)

    def test_many_short_agreements(self):
        chance = random.Random(21)
        for some in (some_short_numbers, some_traps):
            for days, count in ((1, 200), (2, 600), (3, 600), (4, 300), (5, 100)):
                for _ in range(count):
                    line = some_short_line(chance, days, some)
                    self.assertEqual(answers(sum(line, [])), by_words(line), line)

    def test_every_list_of_few_small_numbers(self):
        lists = [[]]
        for count in range(6):
            for numbers in lists:
                line = [agree(numbers), STANDS, LEFT, safe(0), today(1), day(1, 2), STANDS, WHO, LEFT, safe(1)]
                self.assertEqual(answers(sum(line, [])), by_words(line), line)
            lists = [numbers + [number] for numbers in lists for number in range(7)]


class ByEveryWayToAct(unittest.TestCase):
    """Just as the document has it: there's a way to act, such that, whatever the other one does."""

    def test_safe_and_today(self):
        chance = random.Random(22)
        seen = []
        for _ in range(80):
            numbers = chance.choice((some_short_numbers, some_traps))(chance, 2)
            told = read_all(numbers)
            for p in (0, 1):
                ways = ways_that_keep_out(told, p, 2)
                lowest = min((way[()] for way in ways), default=-6)
                self.assertEqual(ask(agree(numbers), safe(p), today(p))[1:], [[int(len(ways) > 0)], [lowest]], numbers)
                seen.append(lowest)
        self.assertEqual(sorted(set(seen)), [-6, 0, 1, 2, 3])


class Followed(unittest.TestCase):

    def test_today_never_ends_in_breach(self):
        chance = random.Random(23)
        kept = 0
        for _ in range(400):
            line = [agree(some_traps(chance, 5)), add(some_short_numbers(chance, 5))]
            p = chance.randrange(2)
            if ask(*line, safe(p))[-1] == [0]:
                continue
            kept += 1
            for _ in range(5):
                choice = ask(*line, today(p))[-1][0]
                self.assertIn(choice, (0, 1, 2, 3), line)
                line.append(doing(p, choice, chance.randrange(4)))
                self.assertEqual(ask(*line, WHO)[-1][p], -1, line)
        self.assertGreater(kept, 100)


if __name__ == "__main__":
    unittest.main()
