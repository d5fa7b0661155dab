"""What the tests share: agreements and calls as numbers, and the answers call by call."""

from dutydays.agreed import answers

OVER = [0]


def breach(p):
    return [1, p]


def must(p, act, k, done, undone):
    return [2, p, act, k] + done + undone


def mustnt(p, act, k, done, undone):
    return [3, p, act, k] + done + undone


def may(p, act, k, done, undone):
    return [4, p, act, k] + done + undone


def both(first, second):
    return [5] + first + second


def agree(numbers):
    return [0, len(numbers)] + numbers


def add(numbers):
    return [1, len(numbers)] + numbers


def day(a, b):
    return [2, a, b]


STANDS = [3]
WHO = [4]
LEFT = [7]


def safe(p):
    return [5, p]


def today(p):
    return [6, p]


def doing(p, choice, other=0):
    """The day on which party p makes this choice and the other party the other."""
    return day(choice, other) if p == 0 else day(other, choice)


def ask(*calls):
    """The answers to these calls on one new agreement, each as a list of its own."""
    given = answers([number for call in calls for number in call])
    split = []
    at = 0
    while at < len(given):
        split.append(given[at + 1:at + 1 + given[at]])
        at += 1 + given[at]
    if at != len(given) or len(split) != len(calls):
        raise AssertionError("the answers do not come one for each call: %r" % (given,))
    return split


def last(*calls):
    return ask(*calls)[-1]
