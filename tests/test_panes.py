"""Panes: what is told of a key, when, and how it adds up."""

import unittest

from tests.helper import MARK, NOT_TAKEN, ask, begin, changes, event, taken, taken_back, ticks, told


class Modes(unittest.TestCase):
    def line(self, mode, empties=0):
        return ask(begin(mode, empties, 4, 0, 2), event(3, 1), event(3, 2), event(3, 4), event(3, 8), event(3, 16),
                   event(3, 32))[1:]

    def test_the_new_ones(self):
        self.assertEqual(self.line(0), [
            taken(), taken(told(3, 0, 0, 2, 3)),
            taken(), taken(told(3, 1, 0, 2, 12)),
            taken(), taken(told(3, 2, 0, 2, 48))])

    def test_all(self):
        self.assertEqual(self.line(1), [
            taken(), taken(told(3, 0, 0, 2, 3)),
            taken(), taken(told(3, 1, 0, 4, 15)),
            taken(), taken(told(3, 2, 0, 6, 63))])

    def test_all_with_the_last_one_taken_back(self):
        self.assertEqual(self.line(2), [
            taken(), taken(told(3, 0, 0, 2, 3)),
            taken(), taken(taken_back(3, 0, 0, 2, 3), told(3, 1, 0, 4, 15)),
            taken(), taken(taken_back(3, 1, 0, 4, 15), told(3, 2, 0, 6, 63))])

    def test_taken_back_as_it_was_told(self):
        line = ask(begin(2, 0, 7, 0, 1, 7, 2, 0, 1), event(5, 10), event(5, 20), MARK, event(5, 40))
        self.assertEqual(line[1:], [
            taken(told(5, 0, 0, 1, 10)),
            taken(),
            changes(taken_back(5, 0, 0, 1, 10), told(5, 1, 1, 2, 30)),
            taken(taken_back(5, 1, 1, 2, 30), told(5, 2, 2, 3, 70))])

    def test_each_key_takes_back_its_own(self):
        line = ask(begin(2, 0, 4, 1, 1), event(7, 1), event(2, 2), ticks(1), event(7, 4), ticks(1), event(2, 8),
                   event(7, 16), ticks(1))
        self.assertEqual(line[3], changes(told(2, 0, 0, 1, 2), told(7, 0, 0, 1, 1)))
        self.assertEqual(line[5], changes(taken_back(7, 0, 0, 1, 1), told(7, 1, 0, 2, 5)))
        self.assertEqual(line[8], changes(taken_back(2, 0, 0, 1, 2), told(2, 1, 0, 2, 10),
                                          taken_back(7, 1, 0, 2, 5), told(7, 2, 0, 3, 21)))

    def test_sums_are_whole(self):
        line = ask(begin(1, 0, 0, 3), *[event(9, 1000000)] * 3)
        self.assertEqual(line[3], taken(told(9, 0, 0, 3, 3000000)))

    def test_values_of_0_count(self):
        line = ask(begin(0, 0, 4, 0, 2), event(0, 0), event(0, 0))
        self.assertEqual(line[2], taken(told(0, 0, 0, 2, 0)))


class When(unittest.TestCase):
    def test_early_by_the_mark_and_late(self):
        line = ask(begin(0, 0, 7, 8, 4, 1, 1, 2, 4, 0, 1), event(1, 5), ticks(1), event(1, 6), MARK, event(1, 7))
        self.assertEqual(line[2:], [
            changes(told(1, 0, 0, 1, 5)), taken(), changes(told(1, 1, 1, 1, 6)), taken(told(1, 2, 2, 1, 7))])

    def test_late_by_a_tick(self):
        line = ask(begin(0, 0, 1, 2), event(1, 5), ticks(1), MARK, ticks(1))
        self.assertEqual(line[3:], [changes(), changes(told(1, 0, 2, 1, 5))])

    def test_the_mark_by_key(self):
        line = ask(begin(0, 0, 2), event(8, 1), event(0, 2), event(4, 3), MARK)
        self.assertEqual(line[4], changes(told(0, 0, 1, 1, 2), told(4, 0, 1, 1, 3), told(8, 0, 1, 1, 1)))


class FirstEventBehindTheMark(unittest.TestCase):
    def test_hears_the_mark_right_behind_it(self):
        line = ask(begin(0, 0, 2), MARK, event(6, 9), event(6, 1))
        self.assertEqual(line[2:], [taken(told(6, 0, 1, 1, 9)), NOT_TAKEN])

    def test_hears_the_event_first(self):
        line = ask(begin(0, 1, 7, 0, 1, 2), MARK, event(6, 9), event(6, 1))
        self.assertEqual(line[2:], [taken(told(6, 0, 2, 1, 9), told(6, 1, 1, 0, 0)), NOT_TAKEN])

    def test_takes_back_within_one_event(self):
        line = ask(begin(2, 1, 7, 0, 1, 2), MARK, event(6, 9))
        self.assertEqual(line[2], taken(told(6, 0, 2, 1, 9), taken_back(6, 0, 2, 1, 9), told(6, 1, 1, 1, 9)))

    def test_an_empty_one_by_the_mark_is_not_told(self):
        line = ask(begin(2, 0, 7, 0, 1, 2), MARK, event(6, 9), event(6, 1))
        self.assertEqual(line[2:], [taken(told(6, 0, 2, 1, 9)), NOT_TAKEN])

    def test_does_not_hear_the_mark_when_it_is_over(self):
        line = ask(begin(0, 1, 0, 1), MARK, event(6, 9), event(6, 1))
        self.assertEqual(line[2:], [taken(told(6, 0, 2, 1, 9)), NOT_TAKEN])
        line = ask(begin(0, 1, 5, 4, 2, 1, 0), MARK, event(6, 9))
        self.assertEqual(line[2], taken(told(6, 0, 2, 1, 9)))

    def test_only_the_first_event(self):
        line = ask(begin(0, 1, 4, 2), MARK, event(6, 9), event(6, 1), event(7, 2), event(6, 3))
        self.assertEqual(line[2:], [taken(told(6, 0, 1, 1, 9)), taken(), taken(told(7, 0, 1, 1, 2)), taken()])

    def test_not_a_key_that_had_events_ahead_of_the_mark(self):
        line = ask(begin(0, 1, 7, 0, 2, 2), event(6, 9), MARK, event(6, 1), event(6, 2))
        self.assertEqual(line[2:], [changes(), taken(told(6, 0, 2, 2, 10)), taken()])

    def test_both_its_event_and_the_mark(self):
        line = ask(begin(0, 0, 6, 0, 1, 2), MARK, event(6, 9))
        self.assertEqual(line[2], taken(told(6, 0, 1, 1, 9)))

    def test_a_refused_event_is_not_the_first(self):
        line = ask(begin(0, 0, 2), MARK, event(6, 1000001), event(6, 9))
        self.assertEqual(line[2:], [[-1], taken(told(6, 0, 1, 1, 9))])


class Empties(unittest.TestCase):
    """A trigger that fires for each event, and then on the mark with nothing new."""

    def line(self, mode, empties):
        return ask(begin(mode, empties, 7, 0, 1, 7, 2, 4, 0, 1), event(1, 5), MARK, event(1, 6))[2:]

    def test_not_told(self):
        self.assertEqual(self.line(0, 0), [changes(), taken(told(1, 1, 2, 1, 6))])
        self.assertEqual(self.line(1, 0), [changes(), taken(told(1, 1, 2, 2, 11))])
        self.assertEqual(self.line(2, 0), [changes(), taken(taken_back(1, 0, 0, 1, 5), told(1, 1, 2, 2, 11))])

    def test_told(self):
        self.assertEqual(self.line(0, 1), [changes(told(1, 1, 1, 0, 0)), taken(told(1, 2, 2, 1, 6))])
        self.assertEqual(self.line(1, 1), [changes(told(1, 1, 1, 1, 5)), taken(told(1, 2, 2, 2, 11))])
        self.assertEqual(self.line(2, 1), [
            changes(taken_back(1, 0, 0, 1, 5), told(1, 1, 1, 1, 5)),
            taken(taken_back(1, 1, 1, 1, 5), told(1, 2, 2, 2, 11))])

    def test_the_trigger_goes_on_though_nothing_is_told(self):
        line = ask(begin(0, 0, 7, 0, 1, 2), event(1, 5), MARK, event(1, 6))
        self.assertEqual(line[2:], [changes(), NOT_TAKEN])

    def test_an_event_of_value_0_is_no_emptiness(self):
        line = ask(begin(0, 0, 2), event(1, 0), MARK)
        self.assertEqual(line[2], changes(told(1, 0, 1, 1, 0)))


class Over(unittest.TestCase):
    def test_nothing_more_is_taken(self):
        line = ask(begin(1, 1, 0, 2), event(1, 5), event(1, 6), event(1, 7), ticks(5), MARK, event(1, 8), event(2, 1))
        self.assertEqual(line[2:], [taken(told(1, 0, 0, 2, 11)), NOT_TAKEN, changes(), changes(), NOT_TAKEN, taken()])

    def test_over_by_a_tick(self):
        line = ask(begin(0, 0, 1, 1), event(1, 5), ticks(2), event(1, 6))
        self.assertEqual(line[2:], [changes(told(1, 0, 0, 1, 5)), NOT_TAKEN])

    def test_over_by_the_mark(self):
        line = ask(begin(0, 0, 2), event(1, 5), MARK, event(1, 6))
        self.assertEqual(line[2:], [changes(told(1, 0, 1, 1, 5)), NOT_TAKEN])


if __name__ == "__main__":
    unittest.main()
