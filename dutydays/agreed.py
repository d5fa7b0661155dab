"""The calls on one agreement, and their answers."""

from dutydays.agreement import ACT, DAYS, MUST, OVER, WHO
from dutydays.agreement import after_day, agreement_of, both, duties_of, how_long, is_settled

# The numbers of the calls.
AGREE = 0
ADD = 1
DAY = 2
STANDS = 3

# The refusals.
NOT_AN_AGREEMENT = -1
NOT_A_CHOICE = -1

HIGHEST_CHOICE = 3


class NoSuchCall(ValueError):
    """The number is none of the calls that can be answered."""


class Agreed:
    """What's agreed now, and which day it is. Each method answers a call by a list of numbers."""

    def __init__(self):
        self.agreement = OVER
        self.date = 0

    def agree(self, numbers):
        told = agreement_of(numbers)
        if told is None:
            return [NOT_AN_AGREEMENT]
        self.agreement = told
        self.date = 0
        return [how_long(self.agreement)]

    def add(self, numbers):
        told = agreement_of(numbers)
        if told is None:
            return [NOT_AN_AGREEMENT]
        self.agreement = both(self.agreement, told)
        return [how_long(self.agreement)]

    def day(self, a, b):
        if a > HIGHEST_CHOICE or b > HIGHEST_CHOICE:
            return [NOT_A_CHOICE]
        self.agreement = after_day(self.agreement, (a, b))
        self.date += 1
        return [self.date, 1 if is_settled(self.agreement) else 0]

    def stands(self):
        duties = duties_of(self.agreement)
        answer = [len(duties)]
        for duty in duties:
            answer.extend([duty[0] - MUST, duty[WHO], duty[ACT], duty[DAYS]])
        return answer


def call_length(calls, at):
    """How many numbers the call has that begins at this place, its own number among them."""
    if calls[at] in (AGREE, ADD):
        return 2 + calls[at + 1]
    if calls[at] == DAY:
        return 3
    return 1


def answer_to(line, call):
    """What the line's agreement answers to the call, which is the call's own numbers alone."""
    if call[0] == AGREE:
        return line.agree(call[2:])
    if call[0] == ADD:
        return line.add(call[2:])
    if call[0] == DAY:
        return line.day(call[1], call[2])
    if call[0] == STANDS:
        return line.stands()
    raise NoSuchCall("no such call")


def answers(calls):
    """For each of the calls, in order: how many numbers are answered, then these."""
    line = Agreed()
    given = []
    at = 0
    while at < len(calls):
        call = calls[at:at + call_length(calls, at)]
        answer = answer_to(line, call)
        given.append(len(answer))
        given.extend(answer)
        at += len(call)
    return given
