"""What is agreed, as tuples that are never changed.

(0,) is what's over; (1, p) is p's breach; (5, C, D) is both C and D. Must, mustn't and may are
(2, p, a, k, C, D), (3, p, a, k, C, D) and (4, p, a, k, C, D): a duty, in the names used here.
A head is one of these without its C and D, just as the numbers tell it.

Every walk is a loop: how deep an agreement is nested depends on what is handed in.
"""

BREACH = 1
MUST = 2
MAY = 4
BOTH = 5

OVER = (0,)

# By kind: how many numbers its head has, and how many parts follow behind the head.
HEAD_LENGTHS = (1, 2, 4, 4, 4, 1)
PART_COUNTS = (0, 0, 2, 2, 2, 2)

# By place in a head: the highest number that may stand there (the kind, p, a, k).
HIGHEST = (5, 1, 1, 9)

# The places in a duty.
WHO = 1
ACT = 2
DAYS = 3
DONE = 4
UNDONE = 5


def head_at(numbers, at):
    """The head that begins at this place, or None if none does."""
    if at >= len(numbers) or numbers[at] > BOTH:
        return None
    wanted = HEAD_LENGTHS[numbers[at]]
    head = tuple(numbers[at:at + wanted])
    if len(head) < wanted:
        return None
    if any([number > HIGHEST[place] for place, number in enumerate(head)]):
        return None
    return head


def heads_of(numbers):
    """The heads that the numbers tell, in order, or None if they aren't just an agreement."""
    heads = []
    at = 0
    awaited = 1
    while awaited > 0:
        head = head_at(numbers, at)
        if head is None:
            return None
        heads.append(head)
        at += len(head)
        awaited += PART_COUNTS[head[0]] - 1
    return heads if at == len(numbers) else None


def both(first, second):
    """Both of these; nothing that's over stands beside anything."""
    if first == OVER:
        return second
    if second == OVER:
        return first
    return (BOTH, first, second)


def lacks_parts(piece):
    """Whether this is a head whose C and D still stand behind it."""
    return PART_COUNTS[piece[0]] > 0 and len(piece) == HEAD_LENGTHS[piece[0]]


def put_together(pieces):
    """The agreement that these make: each is whole, or a head with its C and D behind it."""
    # From the right, C and D are whole by the time that their head is met.
    whole = []
    for piece in reversed(pieces):
        if not lacks_parts(piece):
            whole.append(piece)
            continue
        first = whole.pop()
        second = whole.pop()
        if piece[0] == BOTH:
            whole.append(both(first, second))
        else:
            whole.append(piece + (first, second))
    return whole[0]


def agreement_of(numbers):
    """The agreement that the numbers tell, or None if they aren't just an agreement."""
    heads = heads_of(numbers)
    if heads is None:
        return None
    return put_together(heads)


def taken_apart(agreement):
    """What stands now, from the left, with a bare head ahead of both; put_together undoes it."""
    pieces = []
    ahead = [agreement]
    while len(ahead) > 0:
        part = ahead.pop()
        if part[0] == BOTH:
            pieces.append(part[:1])
            ahead.append(part[2])
            ahead.append(part[1])
        else:
            pieces.append(part)
    return pieces


def numbers_of(agreement):
    """The numbers that tell the agreement; agreement_of undoes it."""
    numbers = []
    ahead = [agreement]
    while len(ahead) > 0:
        part = ahead.pop()
        if PART_COUNTS[part[0]] == 0:
            numbers.extend(part)
        else:
            # C and D are the last two of whatever has them.
            numbers.extend(part[:-2])
            ahead.append(part[-1])
            ahead.append(part[-2])
    return numbers


def is_in_breach(agreement, party):
    return (BREACH, party) in taken_apart(agreement)


def is_duty(part):
    return MUST <= part[0] <= MAY


def duties_of(agreement):
    """Each must, mustn't and may that stands now, from the left."""
    return [part for part in taken_apart(agreement) if is_duty(part)]


def is_settled(agreement):
    return len(duties_of(agreement)) == 0


def how_long(agreement):
    """The longest way through duties, each of which may take all of its days, to what has none."""
    longest = 0
    ahead = [(agreement, 0)]
    while len(ahead) > 0:
        entry = ahead.pop()
        part = entry[0]
        days = entry[1]
        if is_duty(part):
            days += part[DAYS] + 1
        longest = max(longest, days)
        # C and D are the last two of whatever has them.
        if PART_COUNTS[part[0]] > 0:
            ahead.append((part[-1], days))
            ahead.append((part[-2], days))
    return longest


def does(choice, act):
    """Whether this choice of acts (0 none, 1 act 0, 2 act 1, 3 both) has the act in it."""
    return (choice >> act) & 1 == 1


def piece_after(piece, choices):
    """What a piece of taken_apart is when the day is past; choices holds one for each party."""
    if not is_duty(piece):
        return piece
    if does(choices[piece[WHO]], piece[ACT]):
        return piece[DONE]
    if piece[DAYS] == 0:
        return piece[UNDONE]
    return piece[:DAYS] + (piece[DAYS] - 1,) + piece[DONE:]


def after_day(agreement, choices):
    """What's agreed when the day is past on which the parties made these choices."""
    return put_together([piece_after(piece, choices) for piece in taken_apart(agreement)])
