"""Many lines of calls, against a second reading of the document's words, by recursion."""

import random
import unittest

from dutydays.agreed import answers
from helper import STANDS, add, agree, day


class Wrong(Exception):
    pass


def read(numbers):
    """One agreement from the front of the numbers, and what is behind it."""
    if not numbers or numbers[0] > 5:
        raise Wrong
    kind, rest = numbers[0], numbers[1:]
    if kind == 0:
        return {"kind": 0}, rest
    if kind == 5:
        first, rest = read(rest)
        second, rest = read(rest)
        return {"kind": 5, "first": first, "second": second}, rest
    if not rest or rest[0] > 1:
        raise Wrong
    if kind == 1:
        return {"kind": 1, "p": rest[0]}, rest[1:]
    if len(rest) < 3 or rest[1] > 1 or rest[2] > 9:
        raise Wrong
    done, behind = read(rest[3:])
    undone, behind = read(behind)
    return {"kind": kind, "p": rest[0], "act": rest[1], "k": rest[2], "done": done, "undone": undone}, behind


def read_all(numbers):
    told, rest = read(numbers)
    if rest:
        raise Wrong
    return told


def long(told):
    if told["kind"] in (0, 1):
        return 0
    if told["kind"] == 5:
        return max(long(told["first"]), long(told["second"]))
    return told["k"] + 1 + max(long(told["done"]), long(told["undone"]))


def settled(told):
    if told["kind"] == 5:
        return settled(told["first"]) and settled(told["second"])
    return told["kind"] in (0, 1)


def tomorrow(told, acts):
    if told["kind"] in (0, 1):
        return told
    if told["kind"] == 5:
        return {"kind": 5, "first": tomorrow(told["first"], acts), "second": tomorrow(told["second"], acts)}
    if told["act"] in acts[told["p"]]:
        return told["done"]
    if told["k"] == 0:
        return told["undone"]
    return dict(told, k=told["k"] - 1)


def standing(told):
    if told["kind"] in (0, 1):
        return []
    if told["kind"] == 5:
        return standing(told["first"]) + standing(told["second"])
    return [[told["kind"] - 2, told["p"], told["act"], told["k"]]]


ACTS = ([], [0], [1], [0, 1])


def by_words(line):
    told, date, given = {"kind": 0}, 0, []
    for call in line:
        if call[0] in (0, 1):
            try:
                new = read_all(call[2:])
            except Wrong:
                given += [1, -1]
                continue
            if call[0] == 0:
                told, date = new, 0
            else:
                told = {"kind": 5, "first": told, "second": new}
            given += [1, long(told)]
        elif call[0] == 2:
            if max(call[1:]) > 3:
                given += [1, -1]
                continue
            told = tomorrow(told, (ACTS[call[1]], ACTS[call[2]]))
            date += 1
            given += [2, date, int(settled(told))]
        else:
            duties = standing(told)
            given += [1 + 4 * len(duties), len(duties)] + sum(duties, [])
    return given


def some_agreement(chance, deep):
    kind = chance.choice((0, 1, 2, 3, 4, 5, 5) if deep > 0 else (0, 1))
    if kind == 0:
        return [0]
    if kind == 1:
        return [1, chance.randrange(2)]
    head = [5] if kind == 5 else [kind, chance.randrange(2), chance.randrange(2),
                                  chance.choice((0, 0, 1, 1, 2, 3, 9))]
    return head + some_agreement(chance, deep - 1) + some_agreement(chance, deep - 1)


def some_numbers(chance):
    """An agreement of at most 100 numbers, or now and then one that has been spoilt."""
    numbers = [0] * 101
    while len(numbers) > 100:
        numbers = some_agreement(chance, chance.randrange(6))
    if chance.randrange(5) > 0:
        return numbers
    at = chance.randrange(len(numbers))
    harm = chance.randrange(4)
    if harm == 0:
        return numbers[:at]
    if harm == 1:
        return (numbers + [chance.randrange(7)])[:100]
    if harm == 2:
        return numbers[:at] + numbers[at + 1:]
    return numbers[:at] + [chance.choice((0, 1, 2, 3, 4, 5, 6, 9, 10, 1000))] + numbers[at + 1:]


def some_call(chance):
    sort = chance.randrange(20)
    if sort == 0:
        return agree(some_numbers(chance))
    if sort < 5:
        return add(some_numbers(chance))
    if sort == 5:
        return day(chance.choice((0, 3, 4, 1000)), chance.choice((0, 3, 4, 1000)))
    if sort < 14:
        return day(chance.randrange(4), chance.randrange(4))
    return STANDS


class ByWords(unittest.TestCase):

    def test_many_lines(self):
        chance = random.Random(20)
        for _ in range(1500):
            line = [some_call(chance) for _ in range(chance.randrange(1, 61))]
            self.assertEqual(answers(sum(line, [])), by_words(line), line)

    def test_every_list_of_few_small_numbers(self):
        lists = [[]]
        for count in range(6):
            for numbers in lists:
                line = [agree(numbers), STANDS, day(1, 2), STANDS]
                self.assertEqual(answers(sum(line, [])), by_words(line), line)
            lists = [numbers + [number] for numbers in lists for number in range(7)]


if __name__ == "__main__":
    unittest.main()
