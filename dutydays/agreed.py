"""The calls on one agreement, and their answers."""

from dutydays.agreement import ACT, DAYS, MUST, OVER, WHO
from dutydays.agreement import after_day, agreement_of, both, duties_of
from dutydays.agreement import how_long, is_in_breach, is_settled, numbers_of
from dutydays.keeping import LONGEST, keeping_choices

# The numbers of the calls.
AGREE = 0
ADD = 1
DAY = 2
STANDS = 3
WHO_IS_IN_BREACH = 4
SAFE = 5
TODAY = 6
LEFT = 7

# The refusals.
NOT_AN_AGREEMENT = -1
NOT_A_CHOICE = -1
NOT_A_PARTY = -2
TOO_LONG = -5
NO_SUCH_CHOICE = -6

HIGHEST_CHOICE = 3
PARTIES = (0, 1)

# Told in the place of a day.
NOT_IN_BREACH = -1


class NoSuchCall(ValueError):
    """The number is none of the calls."""


class Agreed:
    """What's agreed now, which day it is, and since which day each party is in breach.

    Each method that bears a call's name answers that call by a list of numbers.
    """

    def __init__(self):
        self.begin(OVER)

    def begin(self, agreement):
        self.agreement = agreement
        self.date = 0
        self.since = [NOT_IN_BREACH, NOT_IN_BREACH]
        self.note_breaches()

    def go_on(self, agreement):
        self.agreement = agreement
        self.note_breaches()

    def note_breaches(self):
        # A breach is for good, so the day that was noted first stays.
        for party in PARTIES:
            if self.since[party] == NOT_IN_BREACH and is_in_breach(self.agreement, party):
                self.since[party] = self.date

    def agree(self, numbers):
        told = agreement_of(numbers)
        if told is None:
            return [NOT_AN_AGREEMENT]
        self.begin(told)
        return [how_long(self.agreement)]

    def add(self, numbers):
        told = agreement_of(numbers)
        if told is None:
            return [NOT_AN_AGREEMENT]
        self.go_on(both(self.agreement, told))
        return [how_long(self.agreement)]

    def day(self, a, b):
        if a > HIGHEST_CHOICE or b > HIGHEST_CHOICE:
            return [NOT_A_CHOICE]
        self.date += 1
        self.go_on(after_day(self.agreement, (a, b)))
        return [self.date, 1 if is_settled(self.agreement) else 0]

    def stands(self):
        duties = duties_of(self.agreement)
        answer = [len(duties)]
        for duty in duties:
            answer.extend([duty[0] - MUST, duty[WHO], duty[ACT], duty[DAYS]])
        return answer

    def who(self):
        return list(self.since)

    def refusal_to_look_ahead(self, party):
        """The number that refuses safe and today alike, or None."""
        if party not in PARTIES:
            return NOT_A_PARTY
        if how_long(self.agreement) > LONGEST:
            return TOO_LONG
        return None

    def safe(self, party):
        refusal = self.refusal_to_look_ahead(party)
        if refusal is not None:
            return [refusal]
        return [1 if len(keeping_choices(self.agreement, party)) > 0 else 0]

    def today(self, party):
        refusal = self.refusal_to_look_ahead(party)
        if refusal is not None:
            return [refusal]
        return [min(keeping_choices(self.agreement, party), default=NO_SUCH_CHOICE)]

    def left(self):
        numbers = numbers_of(self.agreement)
        return [len(numbers)] + numbers


def call_length(calls, at):
    """How many numbers the call has that begins at this place, its own number among them."""
    if calls[at] in (AGREE, ADD):
        return 2 + calls[at + 1]
    if calls[at] == DAY:
        return 3
    if calls[at] in (SAFE, TODAY):
        return 2
    return 1


def answer_to(line, call):
    """What the line's agreement answers to the call, which is the call's own numbers alone."""
    if call[0] == AGREE:
        return line.agree(call[2:])
    if call[0] == ADD:
        return line.add(call[2:])
    if call[0] == DAY:
        return line.day(call[1], call[2])
    if call[0] == STANDS:
        return line.stands()
    if call[0] == WHO_IS_IN_BREACH:
        return line.who()
    if call[0] == SAFE:
        return line.safe(call[1])
    if call[0] == TODAY:
        return line.today(call[1])
    if call[0] == LEFT:
        return line.left()
    raise NoSuchCall("no such call")


def answers(calls):
    """For each of the calls, in order: how many numbers are answered, then these."""
    line = Agreed()
    given = []
    at = 0
    while at < len(calls):
        call = calls[at:at + call_length(calls, at)]
        answer = answer_to(line, call)
        given.append(len(answer))
        given.extend(answer)
        at += len(call)
    return given
