"""Many lines, drawn from a fixed seed, against the words' meaning told another way.

Here a trigger is not on its way: from all that it has heard, the moments are worked
out at which it fires, and the one at which it is over.
"""

import random
import unittest

from panetriggers.stretch import answers
from tests.helper import COUNTS, KEYS, MARK, TOO_LARGE, begin, event, key, soon, ticks


def meaning(trigger, heard):
    """The moments at which a nested trigger fires, and the one at which it's over (or None)."""
    sort = trigger[0]
    if sort in (0, 1, 2, 3):
        moment = leaf_moment(trigger, heard)
        return ([], None) if moment is None else ([moment], moment)
    if sort == 4:
        return again(trigger[1], heard), None
    fires, over = meaning(trigger[1], heard)
    if sort == 7:
        if over is None:
            return fires, None
        rest, end = meaning(trigger[2], heard[over + 1:])
        return fires + [over + 1 + m for m in rest], None if end is None else over + 1 + end
    other_fires, other_over = meaning(trigger[2], heard)
    if sort == 6:
        if not fires or not other_fires:
            return [], None
        moment = max(fires[0], other_fires[0])
        return [moment], moment
    ends = [over, other_over if sort == 5 else (other_fires + [None])[0]]
    ends = [end for end in ends if end is not None]
    end = min(ends, default=None)
    return [m for m in sorted({*fires, *other_fires}) if end is None or m <= end], end


def leaf_moment(trigger, heard):
    events = [m for m, sign in enumerate(heard) if sign == 'e']
    if trigger[0] == 0:
        return events[trigger[1] - 1] if len(events) >= trigger[1] else None
    if trigger[0] == 1:
        if not events:
            return None
        moments = [events[0]] + [m for m, sign in enumerate(heard) if sign == 't' and m > events[0]]
        return moments[trigger[1]] if len(moments) > trigger[1] else None
    if trigger[0] == 2 and 'm' in heard:
        return heard.index('m')
    return None


def again(part, heard):
    moments, start = [], 0
    while True:
        fires, over = meaning(part, heard[start:])
        moments += [start + m for m in fires]
        if over is None:
            return moments
        start += over + 1


class Told:
    """A stretch that keeps all it has heard, and works everything out of it."""

    def __init__(self, mode, empties, trigger):
        self.mode, self.empties, self.trigger = mode, empties, trigger
        self.heard = {}
        self.values = {}
        self.panes = {}
        self.passed = False
        self.left_out = 0

    def over(self, key):
        return meaning(self.trigger, self.heard[key])[1] is not None

    def hear(self, key, sign):
        if self.over(key):
            return []
        self.heard[key] += sign
        fires = meaning(self.trigger, self.heard[key])[0]
        if len(self.heard[key]) - 1 not in fires:
            return []
        when = 1 if sign == 'm' else 2 if self.passed else 0
        shown = self.panes[key]
        since = shown[-1][1] if shown else 0
        values = self.values[key]
        if since == len(values) and not self.empties:
            return []
        back = [[0] + shown[-1][0]] if shown and self.mode == 2 else []
        part = values[since:] if self.mode == 0 else values
        pane = [key, len(shown), when, len(part), sum(part)]
        shown.append((pane, len(values)))
        return back + [[1] + pane]

    def event(self, key, value):
        if key > 9 or value > 1000000:
            return [-1]
        first = key not in self.heard
        if first:
            self.heard[key], self.values[key], self.panes[key] = '', [], []
        if self.over(key):
            self.left_out += 1
            return [0, 0]
        self.values[key].append(value)
        told = self.hear(key, 'e')
        if first and self.passed:
            told += self.hear(key, 'm')
        return [1] + flat(told)

    def ticks(self, n):
        if n > 200:
            return [-1]
        return flat([change for tick in range(n) for key in sorted(self.heard) for change in self.hear(key, 't')])

    def mark(self):
        if self.passed:
            return [-4]
        self.passed = True
        return flat([change for key in sorted(self.heard) for change in self.hear(key, 'm')])

    def key(self, k):
        if k not in self.heard:
            return [-5]
        values, shown = self.values[k], self.panes[k]
        new = values[shown[-1][1]:] if shown else values
        return [int(self.over(k)), len(new), sum(new), len(values), sum(values), len(shown)]

    def keys(self):
        return [len(self.heard)] + sorted(self.heard)

    def soon(self, k, sort, far):
        """far: how far to look, where a trigger is known not to fire later."""
        if k not in self.heard:
            return [-5]
        if sort > 1:
            return [-1]
        if self.over(k):
            return [-6]
        heard = self.heard[k]
        ahead = [m - len(heard) for m in meaning(self.trigger, heard + 'et'[sort] * far)[0] if m >= len(heard)]
        return [ahead[0] + 1 if ahead else 0]

    def counts(self):
        return [sum(map(len, self.values.values())), self.left_out, int(self.passed)]


def flat(told):
    return [len(told)] + [number for change in told for number in change]


def drawn_trigger(draw, depth, counts=(1, 2, 3, 4)):
    sort = draw.randrange(9) if depth > 1 else draw.randrange(4)
    if sort == 0:
        return (0, draw.choice(counts))
    if sort == 1:
        return (1, draw.choice((0,) + counts))
    if sort < 4:
        return (sort,)
    return (sort,) + tuple(drawn_trigger(draw, depth - 1, counts) for part in range(1 if sort == 4 else 2))


def numbers_of(trigger):
    numbers = []
    for part in trigger:
        numbers += numbers_of(part) if isinstance(part, tuple) else [part]
    return numbers


def drawn_asking(draw, stretch):
    """One of the calls that only ask, and what it is to answer."""
    pick = draw.randrange(8)
    k = draw.choice((0, 0, 0, 4, 4, 9, 10, TOO_LARGE))
    if pick < 2:
        return key(k), stretch.key(k)
    if pick == 2:
        return KEYS, stretch.keys()
    if pick == 3:
        return COUNTS, stretch.counts()
    sort = draw.choice((0, 0, 0, 1, 1, 1, 2, TOO_LARGE))
    return soon(k, sort), stretch.soon(k, sort, 12)


def drawn_line(draw):
    """A line of calls, and what it is to answer."""
    stretch = Told(0, 0, (4, (0, 2)))
    calls, expected = [], []
    for number in range(draw.randint(1, 60)):
        pick = draw.randrange(60)
        if pick == 0 or (number == 0 and pick < 50):
            mode, empties, trigger = draw.randrange(3), draw.randrange(2), drawn_trigger(draw, draw.randint(1, 5))
            if len(numbers_of(trigger)) > 60:
                continue
            stretch, answer = Told(mode, empties, trigger), [0]
            call = begin(mode, empties, *numbers_of(trigger))
        elif pick == 1:
            call, answer = begin(0, 0, 0), [-3]
        elif pick < 22:
            k = draw.choice((0, 0, 0, 4, 4, 9, 10)) if pick > 3 else draw.randrange(12)
            value = draw.choice((0, 1, 7, 30, 1000000, 1000001)) if pick > 20 else draw.randrange(100)
            call, answer = event(k, value), stretch.event(k, value)
        elif pick < 38:
            n = draw.choice((0, 1, 1, 1, 2, 3, 5, 201))
            call, answer = ticks(n), stretch.ticks(n)
        elif pick < 40:
            call, answer = MARK, stretch.mark()
        else:
            call, answer = drawn_asking(draw, stretch)
        calls += call
        expected += [len(answer)] + answer
    return calls, expected


class Meaning(unittest.TestCase):
    def test_lines_answer_as_the_meaning_says(self):
        draw = random.Random(20)
        for number in range(3000):
            calls, expected = drawn_line(draw)
            if calls:
                kept = list(calls)
                self.assertEqual(answers(calls), expected, calls)
                self.assertEqual(calls, kept)
                self.assertEqual(answers(calls), expected, calls)

    def test_far_ahead_as_the_meaning_says(self):
        draw = random.Random(21)
        for number in range(150):
            trigger = drawn_trigger(draw, draw.randint(1, 4), (1, 2, 3, 40, 500, 998, 1000))
            stretch, calls = Told(0, 0, trigger), begin(0, 0, *numbers_of(trigger))
            expected = [1, 0]
            for step in range(draw.randint(1, 4)):
                n = draw.randrange(3)
                for call, answer in ((event(4, 1), stretch.event(4, 1)), (ticks(n), stretch.ticks(n)),
                                     (soon(4, step % 2), stretch.soon(4, step % 2, 2000))):
                    calls += call
                    expected += [len(answer)] + answer
            self.assertEqual(answers(calls), expected, calls)


if __name__ == "__main__":
    unittest.main()
