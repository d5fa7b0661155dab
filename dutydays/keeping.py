"""By which choices of today a party can still keep out of breach.

A run is what one party does on so many days, as a number in base 4: a digit for each day's choice, the
first day's ahead. A table tells by which runs a party is in breach in the end. It has a row for each run
of the other party, in order; a row is a number, of which bit r is 1 if the party's own run r is such a
one then. With tables what's agreed is gone through once, not anew for each way that the days may go,
and however wide it is, on each day it goes on in few ways: by each act of each party, done or not.

The functions call themselves once for each day that's looked ahead, and that's LONGEST days at most;
what may be nested deeper within a day is taken apart by a loop.
"""

from dutydays.agreement import ACT, BREACH, WHO
from dutydays.agreement import does, how_long, is_duty, piece_after, taken_apart

# How many days are looked ahead at most.
LONGEST = 5

# By how many days: how many runs of them a party has.
RUNS = (1, 4, 16, 64, 256, 1024)

CHOICES = (0, 1, 2, 3)

# What a duty can ask for: an act of one of the parties.
WHO_AND_ACT = ((0, 0), (0, 1), (1, 0), (1, 1))

# What both parties do, if every duty is done today, and if none is.
EVERY_ACT = (3, 3)
NO_ACT = (0, 0)


def joined(rows, width):
    """One row out of those that go on behind each of the party's own choices on the day ahead of them."""
    row = 0
    for choice, behind in zip(CHOICES, rows):
        row |= behind << (choice * width)
    return row


def by_own_act(act, done, undone):
    """The table that's a day longer: the party's own act on that day tells which of the two goes on."""
    rows = []
    for row_done, row_undone in zip(done, undone):
        behind = [row_done if does(choice, act) else row_undone for choice in CHOICES]
        rows.append(joined(behind, len(done)))
    return rows * len(CHOICES)


def by_others_act(act, done, undone):
    """The table that's a day longer: the other one's act on that day tells which of the two goes on."""
    rows = []
    for choice in CHOICES:
        behind = done if does(choice, act) else undone
        rows.extend([joined([row] * len(CHOICES), len(done)) for row in behind])
    return rows


def parts_after(duties, choices):
    """What stands of these duties when the day is past on which the parties made these choices."""
    parts = []
    for duty in duties:
        parts.extend(taken_apart(piece_after(duty, choices)))
    return parts


def breaches_by_duties(duties, party, days):
    """The party's table of what comes of these duties, which all ask for the same act of the same one."""
    done = breaches(parts_after(duties, EVERY_ACT), party, days - 1)
    undone = breaches(parts_after(duties, NO_ACT), party, days - 1)
    if duties[0][WHO] == party:
        return by_own_act(duties[0][ACT], done, undone)
    return by_others_act(duties[0][ACT], done, undone)


def breaches(parts, party, days):
    """The party's table of what comes of these parts, none of which is longer than so many days."""
    if (BREACH, party) in parts:
        return [(1 << RUNS[days]) - 1] * RUNS[days]
    duties = [part for part in parts if is_duty(part)]
    table = [0] * RUNS[days]
    for asked in WHO_AND_ACT:
        alike = [duty for duty in duties if (duty[WHO], duty[ACT]) == asked]
        if len(alike) > 0:
            more = breaches_by_duties(alike, party, days)
            table = [row | added for row, added in zip(table, more)]
    return table


def whatever_the_other_does(table):
    """The rows of four runs of the other one, which differ in the last day alone, as one."""
    return [table[at] | table[at + 1] | table[at + 2] | table[at + 3] for at in range(0, len(table), 4)]


def by_the_best_choice(row, step):
    """The row by the best of four own runs that lie a step apart: it's told at the first of them."""
    return row & (row >> step) & (row >> (2 * step)) & (row >> (3 * step))


def keeping_choices(agreement, party):
    """The choices of today by which the party still can keep out of breach, from the lowest on.

    None is there if it's in breach already. The agreement is no longer than LONGEST.
    """
    days = max(1, how_long(agreement))
    table = whatever_the_other_does(breaches(taken_apart(agreement), party, days))
    # The party chooses each day by all that was done before, so the last day is settled first. From
    # then on only those bits of a row count that lie a step apart, one for each run of the days before.
    step = 1
    while len(table) > 1:
        table = whatever_the_other_does([by_the_best_choice(row, step) for row in table])
        step *= len(CHOICES)
    return [choice for choice in CHOICES if (table[0] >> (choice * step)) & 1 == 0]
