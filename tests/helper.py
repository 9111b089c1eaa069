"""How tests write a line's calls, and read what it answers."""

from panetriggers.stretch import answers

MARK = [3]
KEYS = [5]
COUNTS = [7]
TOO_LARGE = 4294967295


def begin(mode, empties, *trigger):
    return [0, mode, empties, len(trigger)] + list(trigger)


def event(key, value):
    return [1, key, value]


def ticks(n):
    return [2, n]


def key(k):
    return [4, k]


def soon(k, sort):
    return [6, k, sort]


def ask(*calls):
    """Hand in the calls as one line; give back each call's answer as a list of its own."""
    answered = answers([number for call in calls for number in call])
    split = []
    at = 0
    while at < len(answered):
        behind = at + 1 + answered[at]
        split.append(answered[at + 1:behind])
        at = behind
    assert at == len(answered) and len(split) == len(calls)
    return split


def told(*pane):
    """A change: a pane (key, number, when, how many, sum) that is told."""
    return [1] + list(pane)


def taken_back(*pane):
    return [0] + list(pane)


def changes(*each):
    """What ticks and mark answer."""
    return [len(each)] + [number for change in each for number in change]


def taken(*each):
    """What event answers for an event that's taken."""
    return [1] + changes(*each)


NOT_TAKEN = [0, 0]


def firings(trigger, heard):
    """Run a trigger alone, for one key: at each thing heard, 'f' if it fires, '.' if
    not, and, from where its key takes nothing more, 'x' for each event.

    heard: a text of 'e' (event), 't' (tick) and 'm' (mark); it begins with an event.
    """
    words = {'e': event(3, 1), 't': ticks(1), 'm': MARK}
    line = [begin(0, 1, *trigger)] + [words[sign] for sign in heard]
    signs = ''
    for sign, answer in zip(heard, ask(*line)[1:]):
        if sign == 'e' and answer == NOT_TAKEN:
            signs += 'x'
        else:
            count = answer[1] if sign == 'e' else answer[0]
            signs += '.f'[count]
    return signs
