"""Promise 3 but for soon: key, keys and counts, and that asking changes nothing."""

import unittest

from panetriggers.stretch import answers
from tests.helper import (
    COUNTS, KEYS, MARK, NOT_TAKEN, TOO_LARGE, ask, begin, changes, event, key, soon, taken, ticks, told)


class Key(unittest.TestCase):
    def test_none_of_it_has_come(self):
        line = ask(key(0), event(3, 1), key(2), key(4), key(9))
        self.assertEqual([line[0]] + line[2:], [[-5]] * 4)

    def test_no_such_key(self):
        line = ask(event(9, 1), key(10), key(13), key(TOO_LARGE), key(9))
        self.assertEqual(line[1:], [[-5], [-5], [-5], [0, 1, 1, 1, 1, 0]])

    def test_its_event_was_refused(self):
        line = ask(event(3, 1000001), key(3), event(10, 5), key(10), event(11, 1000001), key(11), key(1))
        self.assertEqual(line, [[-1], [-5]] * 3 + [[-5]])

    def test_neither_ticks_nor_the_mark_bring_a_key(self):
        self.assertEqual(ask(ticks(5), MARK, key(0))[2], [-5])

    def test_all_right_behind_begin(self):
        line = ask(*[event(k, 1) for k in range(10)], begin(0, 0, 0, 1), *[key(k) for k in range(10)])
        self.assertEqual(line[11:], [[-5]] * 10)

    def test_behind_events(self):
        line = ask(begin(0, 0, 3), event(3, 5), key(3), event(3, 0), event(3, 1000000), key(3), event(0, 7), key(0),
                   key(3))
        self.assertEqual(line[2], [0, 1, 5, 1, 5, 0])
        self.assertEqual(line[5], [0, 3, 1000005, 3, 1000005, 0])
        self.assertEqual(line[7:], [[0, 1, 7, 1, 7, 0], [0, 3, 1000005, 3, 1000005, 0]])

    def test_behind_a_pane(self):
        for mode in (0, 1, 2):
            line = ask(begin(mode, 0, 4, 0, 2), event(3, 5), event(3, 6), key(3), event(3, 7), key(3), event(3, 8),
                       key(3))
            self.assertEqual(line[3], [0, 0, 0, 2, 11, 1])
            self.assertEqual(line[5], [0, 1, 7, 3, 18, 1])
            self.assertEqual(line[7], [0, 0, 0, 4, 26, 2])

    def test_a_refused_event_changes_nothing(self):
        line = ask(event(3, 5), event(3, 1000001), key(3))
        self.assertEqual(line[1:], [[-1], [0, 1, 5, 1, 5, 0]])

    def test_behind_a_firing_that_told_nothing(self):
        trigger = (5, 4, 0, 1, 4, 2)
        for mode in (0, 1, 2):
            line = ask(begin(mode, 0, *trigger), event(3, 5), key(3), MARK, key(3))
            self.assertEqual(line[2:], [[0, 0, 0, 1, 5, 1], changes(), [0, 0, 0, 1, 5, 1]])

    def test_behind_the_last_firing_that_told_nothing(self):
        line = ask(begin(0, 0, 8, 4, 0, 1, 2), event(3, 5), MARK, key(3))
        self.assertEqual(line[2:], [changes(), [1, 0, 0, 1, 5, 1]])

    def test_behind_an_empty_pane(self):
        line = ask(begin(1, 1, 8, 4, 0, 1, 1, 2), event(3, 5), ticks(1), key(3), ticks(1), key(3))
        self.assertEqual(line[3:], [[0, 0, 0, 1, 5, 1], changes(told(3, 1, 0, 1, 5)), [1, 0, 0, 1, 5, 2]])

    def test_over(self):
        line = ask(begin(0, 0, 0, 2), event(3, 5), key(3), event(3, 6), key(3))
        self.assertEqual([line[2], line[4]], [[0, 1, 5, 1, 5, 0], [1, 0, 0, 2, 11, 1]])

    def test_over_by_ticks(self):
        line = ask(begin(0, 0, 1, 2), event(3, 5), ticks(1), key(3), ticks(1), key(3), ticks(1), key(3))
        self.assertEqual([line[3], line[5], line[7]], [[0, 1, 5, 1, 5, 0]] + [[1, 0, 0, 1, 5, 1]] * 2)

    def test_over_by_the_mark(self):
        line = ask(begin(0, 0, 2), event(3, 5), key(3), MARK, key(3), event(4, 6), key(4))
        self.assertEqual([line[2], line[4], line[6]], [[0, 1, 5, 1, 5, 0], [1, 0, 0, 1, 5, 1], [1, 0, 0, 1, 6, 1]])

    def test_an_event_that_came_when_it_was_over(self):
        line = ask(begin(0, 0, 0, 1), event(3, 5), event(3, 6), key(3), event(3, 7), key(3))
        self.assertEqual(line[2:], [NOT_TAKEN, [1, 0, 0, 1, 5, 1]] * 2)


class Keys(unittest.TestCase):
    def test_none(self):
        self.assertEqual(ask(KEYS, begin(2, 1, 3), KEYS, ticks(3), MARK, KEYS),
                         [[0], [0], [0], changes(), changes(), [0]])

    def test_one(self):
        self.assertEqual(ask(event(0, 1), KEYS, event(0, 1), KEYS)[1::2], [[1, 0], [1, 0]])

    def test_by_size(self):
        line = ask(event(7, 1), KEYS, event(9, 1), KEYS, event(0, 1), KEYS, event(3, 1), event(7, 1), KEYS)
        self.assertEqual([line[1], line[3], line[5], line[8]],
                         [[1, 7], [2, 7, 9], [3, 0, 7, 9], [4, 0, 3, 7, 9]])

    def test_all(self):
        line = ask(*[event(k, 1) for k in (4, 9, 2, 0, 8, 5, 1, 3, 7, 6)], KEYS)
        self.assertEqual(line[10], [10, 0, 1, 2, 3, 4, 5, 6, 7, 8, 9])

    def test_over_or_not(self):
        line = ask(begin(0, 0, 0, 1), event(7, 1), event(5, 1), event(7, 1), KEYS)
        self.assertEqual(line[4], [2, 5, 7])

    def test_not_by_a_refused_event(self):
        self.assertEqual(ask(event(7, 1000001), event(10, 1), KEYS)[2], [0])

    def test_none_behind_begin(self):
        line = ask(event(7, 1), begin(0, 0, 0, 1), KEYS, event(2, 1), KEYS)
        self.assertEqual([line[2], line[4]], [[0], [1, 2]])

    def test_as_they_were_behind_a_refused_begin(self):
        self.assertEqual(ask(event(7, 1), begin(0, 0), KEYS)[1:], [[-3], [1, 7]])


class Counts(unittest.TestCase):
    def test_nothing_has_come(self):
        self.assertEqual(ask(COUNTS, begin(1, 1, 3), COUNTS), [[0, 0, 0], [0], [0, 0, 0]])

    def test_taken(self):
        line = ask(event(0, 5), COUNTS, event(0, 5), event(9, 0), COUNTS, ticks(3), COUNTS)
        self.assertEqual([line[1], line[4], line[6]], [[1, 0, 0], [3, 0, 0], [3, 0, 0]])

    def test_not_taken(self):
        line = ask(begin(0, 0, 0, 2), event(0, 5), event(0, 5), event(0, 5), COUNTS, event(1, 5), event(0, 5), COUNTS)
        self.assertEqual([line[4], line[7]], [[2, 1, 0], [3, 2, 0]])

    def test_the_mark(self):
        line = ask(COUNTS, MARK, COUNTS, MARK, COUNTS, event(0, 5), COUNTS)
        self.assertEqual([line[0], line[2], line[4], line[6]], [[0, 0, 0], [0, 0, 1], [0, 0, 1], [1, 0, 1]])

    def test_a_refused_event_counts_as_neither(self):
        line = ask(begin(0, 0, 0, 1), event(0, 1000001), event(10, 1), COUNTS, event(0, 1), event(0, 1000001), COUNTS)
        self.assertEqual([line[3], line[6]], [[0, 0, 0], [1, 0, 0]])

    def test_a_begin_sets_all_back(self):
        line = ask(begin(0, 0, 0, 1), event(0, 1), event(0, 1), MARK, COUNTS, begin(0, 0, 0, 1), COUNTS, event(0, 1),
                   COUNTS)
        self.assertEqual([line[4], line[6], line[8]], [[1, 1, 1], [0, 0, 0], [1, 0, 0]])

    def test_a_refused_begin_changes_nothing(self):
        for refused, why in ((begin(3, 0, 2), -1), (begin(0, 2, 2), -2), (begin(0, 0, 9), -3)):
            line = ask(begin(0, 0, 0, 1), event(0, 1), event(0, 1), event(1, 1), MARK, refused, COUNTS, event(1, 1),
                       COUNTS, key(1))
            self.assertEqual(line[5:], [[why], [2, 1, 1], NOT_TAKEN, [2, 2, 1], [1, 0, 0, 1, 1, 1]])


class Asking(unittest.TestCase):
    ASKED = [key(3), KEYS, soon(3, 0), soon(3, 1), COUNTS, key(10), soon(3, 2), soon(4, 0)]
    TRIGGERS = [
        (0, 3), (1, 2), (2,), (3,), (4, 0, 2), (4, 1, 2), (5, 0, 3, 1, 4), (6, 0, 2, 1, 3), (6, 0, 4, 2),
        (7, 0, 2, 1, 1), (7, 8, 4, 1, 2, 2, 4, 0, 2), (8, 4, 0, 2, 1, 5), (4, 6, 0, 2, 1, 1)]
    HEARD = [event(3, 5), ticks(1), event(3, 6), ticks(2), event(0, 7), MARK, event(3, 8), event(8, 9), ticks(1)]

    def test_changes_nothing(self):
        for trigger in self.TRIGGERS:
            for mode in (0, 2):
                calls = [begin(mode, 1, *trigger)] + self.HEARD
                plain = ask(*calls, *self.ASKED)
                for asked in self.ASKED:
                    between = ask(*[each for call in calls for each in (call, asked, asked)], *self.ASKED)
                    others = between[:3 * len(calls):3] + between[3 * len(calls):]
                    self.assertEqual(others, plain, (trigger, asked))
                    again = [between[at:at + 2] for at in range(1, 3 * len(calls), 3)]
                    self.assertEqual([pair[0] for pair in again], [pair[1] for pair in again], (trigger, asked))

    def test_without_a_begin_ahead(self):
        calls = [COUNTS, KEYS, key(3), soon(3, 0), event(3, 5), key(3), soon(3, 0), soon(3, 1), event(3, 6), key(3),
                 soon(3, 0), MARK, event(1, 7), KEYS, COUNTS]
        line = ask(*calls)
        self.assertEqual(line, ask(begin(0, 0, 4, 0, 2), *calls)[1:])
        self.assertEqual(line, [
            [0, 0, 0], [0], [-5], [-5], taken(), [0, 1, 5, 1, 5, 0], [1], [0], taken(told(3, 0, 0, 2, 11)),
            [0, 0, 0, 2, 11, 1], [2], changes(), taken(), [2, 1, 3], [3, 0, 1]])

    def test_what_is_given_back(self):
        calls = [0, 1, 0, 2, 0, 2, 1, 7, 5, 1, 2, 6, 4, 7, 4, 8, 5, 6, 7, 0, 6, 7, 2, 1, 7, 1, 6, 7, 1, 1, 7, 1, 3, 7]
        self.assertEqual(answers(calls), [
            1, 0,
            2, 1, 0,
            2, 1, 0,
            6, 0, 1, 5, 1, 5, 0,
            1, -5,
            3, 2, 2, 7,
            1, 1,
            1, -1,
            8, 1, 1, 1, 7, 0, 0, 2, 6,
            1, -6,
            2, 0, 0,
            1, 0,
            3, 3, 1, 1])

    def test_numbers_are_ints_in_a_list(self):
        given = answers([1, 3, 5, 1, 3, 5, 3, 4, 3, 5, 6, 3, 0, 6, 3, 1, 7, 0, 0, 0, 1, 2, 1, 3, 5, 4, 3, 7])
        self.assertEqual({type(number) for number in given}, {int})
        self.assertIs(type(given), list)

    def test_what_is_handed_in_stays_as_it_was(self):
        calls = [1, 3, 5, 4, 3, 5, 6, 3, 0, 6, 3, 1, 7, 3, 0, 0, 0, 2, 0, 3, 1, 3, 5, 4, 3, 6, 3, 0, 7, 2, 1, 5]
        kept = list(calls)
        first = answers(calls)
        self.assertEqual(calls, kept)
        self.assertEqual(answers(calls), first)
        self.assertEqual(calls, kept)

    def test_what_is_given_back_is_the_caller_s(self):
        calls = [1, 3, 5, 5, 4, 3, 7]
        first = answers(calls)
        kept = list(first)
        first.clear()
        self.assertEqual(answers(calls), kept)

    def test_sixty_calls(self):
        line = ask(*[event(k, k) for k in range(10)], *[KEYS, COUNTS, key(9), soon(9, 0), soon(9, 1)] * 10)
        self.assertEqual(line[10:], [[10] + list(range(10)), [10, 0, 0], [0, 1, 9, 1, 9, 0], [1], [0]] * 10)


if __name__ == "__main__":
    unittest.main()
