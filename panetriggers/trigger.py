"""Triggers: how one is read from numbers, and what it does with what it hears.

A trigger on its way is a tuple: its sort, then its parts. It is never changed.
Hearing gives back a pair: whether it fires, and what is left of it, which is a
trigger again, or None when it is over. A trigger that is over fires at that
very moment, whatever its sort: the sorts below count on it.
"""

EVENT = 0
TICK = 1
MARK = 2

NTH = 0
DELAY = 1
AT_MARK = 2
NEVER = 3
AGAIN = 4
FIRST = 5
BOTH = 6
TURN = 7
UNTIL = 8
# What a delay is behind its first event, and what is left of "both" when one of
# the two has fired: no numbers tell these two.
DELAYING = 9
ONCE = 10

# The places in the pair that hearing gives back.
FIRES = 0
LEFT = 1

MOST_NUMBERS = 60
DEEPEST = 10
MOST_COUNTED = 1000
MOST_LOOKED_AHEAD = 2000


def read_trigger(numbers):
    """Give back the trigger that the numbers tell, or None if they aren't just one."""
    if len(numbers) > MOST_NUMBERS:
        return None
    found = read_at(numbers, 0, 1)
    if found is None or found[1] != len(numbers):
        return None
    return found[0]


def read_at(numbers, at, depth):
    """Give back the trigger that begins at a place and the place behind it, or None."""
    if depth > DEEPEST or at >= len(numbers):
        return None
    sort = numbers[at]
    if sort == NTH or sort == DELAY:
        return read_counted(numbers, at)
    if sort == AT_MARK or sort == NEVER:
        return ((sort,), at + 1)
    if sort == AGAIN:
        return read_again(numbers, at, depth)
    if sort <= UNTIL:
        return read_two(numbers, at, depth)
    return None


def read_counted(numbers, at):
    """Read a sort that has a count behind it; only a delay may be 0."""
    if at + 1 >= len(numbers):
        return None
    sort = numbers[at]
    counted = numbers[at + 1]
    if counted > MOST_COUNTED or (counted == 0 and sort == NTH):
        return None
    return ((sort, counted), at + 2)


def read_again(numbers, at, depth):
    """Read an "again": it keeps its part as it was told, to begin it anew, and as it runs."""
    part = read_at(numbers, at + 1, depth + 1)
    if part is None:
        return None
    return ((AGAIN, part[0], part[0]), part[1])


def read_two(numbers, at, depth):
    """Read a sort that has two triggers behind it."""
    one = read_at(numbers, at + 1, depth + 1)
    if one is None:
        return None
    two = read_at(numbers, one[1], depth + 1)
    if two is None:
        return None
    return ((numbers[at], one[0], two[0]), two[1])


def hear(trigger, heard):
    """Give back whether the trigger fires on what is heard, and what is left of it."""
    sort = trigger[0]
    if sort <= NEVER or sort == DELAYING:
        return hear_simple(trigger, heard)
    if sort == AGAIN:
        return hear_again(trigger, heard)
    if sort == TURN:
        return hear_turn(trigger, heard)
    if sort == ONCE:
        return hear_once(trigger, heard)
    one = hear(trigger[1], heard)
    two = hear(trigger[2], heard)
    if sort == FIRST:
        return join_first(one, two)
    if sort == BOTH:
        return join_both(one, two)
    return join_until(one, two)


def hear_simple(trigger, heard):
    """Hear with a trigger that has no trigger within."""
    sort = trigger[0]
    if sort == NTH and heard == EVENT:
        return count_down(NTH, trigger[1])
    if sort == DELAY and heard == EVENT:
        return start_delay(trigger[1])
    if sort == DELAYING and heard == TICK:
        return count_down(DELAYING, trigger[1])
    if sort == AT_MARK and heard == MARK:
        return (True, None)
    return (False, trigger)


def count_down(sort, missing):
    """Take one off what is still missing; the last one fires."""
    if missing == 1:
        return (True, None)
    return (False, (sort, missing - 1))


def start_delay(ticks):
    """Start to wait for ticks; a delay of none fires at once."""
    if ticks == 0:
        return (True, None)
    return (False, (DELAYING, ticks))


def hear_again(trigger, heard):
    """Hear with an "again": a part that is over begins anew, with what is heard next."""
    part = hear(trigger[2], heard)
    left = part[LEFT]
    if left is None:
        left = trigger[1]
    return (part[FIRES], (AGAIN, trigger[1], left))


def hear_turn(trigger, heard):
    """Hear with an "in turn": only the first part hears, till it is over."""
    part = hear(trigger[1], heard)
    if part[LEFT] is None:
        return (part[FIRES], trigger[2])
    return (part[FIRES], (TURN, part[LEFT], trigger[2]))


def hear_once(trigger, heard):
    """Hear with the part of a "both" that has yet to fire."""
    part = hear(trigger[1], heard)
    if part[FIRES]:
        return (True, None)
    return (False, (ONCE, part[LEFT]))


def join_first(one, two):
    """Join what both parts of a "whichever first" did."""
    fires = one[FIRES] or two[FIRES]
    if one[LEFT] is None or two[LEFT] is None:
        return (fires, None)
    return (fires, (FIRST, one[LEFT], two[LEFT]))


def join_both(one, two):
    """Join what both parts of a "both" did; one that has fired hears no more."""
    if one[FIRES] and two[FIRES]:
        return (True, None)
    if one[FIRES]:
        return (False, (ONCE, two[LEFT]))
    if two[FIRES]:
        return (False, (ONCE, one[LEFT]))
    return (False, (BOTH, one[LEFT], two[LEFT]))


def join_until(one, two):
    """Join what both parts of an "until" did: the second ends it by firing."""
    fires = one[FIRES] or two[FIRES]
    if two[FIRES] or one[LEFT] is None:
        return (fires, None)
    return (fires, (UNTIL, one[LEFT], two[LEFT]))


def look_ahead(trigger, heard):
    """Give back how often the same must be heard till the trigger fires; 0 if that is too far ahead."""
    left = trigger
    for number in range(1, MOST_LOOKED_AHEAD + 1):
        outcome = hear(left, heard)
        if outcome[FIRES]:
            return number
        left = outcome[LEFT]
    return 0
