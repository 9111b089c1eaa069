"""Promise 1: begin, its refusals, and how triggers are told as numbers."""

import unittest

from tests.helper import MARK, NOT_TAKEN, TOO_LARGE, ask, begin, changes, event, taken, ticks, told


def balanced(leaves, leaf):
    """A trigger with many leaves that isn't nested deep."""
    if leaves == 1:
        return list(leaf)
    half = leaves // 2
    return [5] + balanced(half, leaf) + balanced(leaves - half, leaf)


class Begin(unittest.TestCase):
    def test_answers_0(self):
        self.assertEqual(ask(begin(0, 0, 2)), [[0]])

    def test_mode(self):
        self.assertEqual(ask(begin(0, 0, 3), begin(1, 0, 3), begin(2, 0, 3)), [[0], [0], [0]])
        self.assertEqual(ask(begin(3, 0, 3), begin(TOO_LARGE, 0, 3)), [[-1], [-1]])

    def test_empties(self):
        self.assertEqual(ask(begin(0, 0, 3), begin(0, 1, 3)), [[0], [0]])
        self.assertEqual(ask(begin(0, 2, 3), begin(0, TOO_LARGE, 3)), [[-2], [-2]])

    def test_the_refusal_told_first(self):
        self.assertEqual(ask(begin(3, 2)), [[-1]])
        self.assertEqual(ask(begin(3, 2, 3)), [[-1]])
        self.assertEqual(ask(begin(3, 0)), [[-1]])
        self.assertEqual(ask(begin(2, 2)), [[-2]])
        self.assertEqual(ask(begin(2, 1)), [[-3]])

    def test_nothing_has_come_behind_it(self):
        line = ask(begin(1, 0, 0, 2), event(1, 10), event(1, 20), MARK,
                   begin(1, 0, 0, 2), event(1, 3), MARK, event(1, 4))
        self.assertEqual(line[4:], [[0], taken(), changes(), taken(told(1, 0, 2, 2, 7))])

    def test_begins_a_trigger_that_was_over(self):
        line = ask(begin(0, 0, 0, 1), event(1, 10), event(1, 20), begin(0, 0, 0, 1), event(1, 5))
        self.assertEqual(line[1:], [taken(told(1, 0, 0, 1, 10)), NOT_TAKEN, [0], taken(told(1, 0, 0, 1, 5))])


class AllIsAsItWas(unittest.TestCase):
    def behind(self, refused, refusal):
        """A refused begin in the midst of a line changes nothing of the rest."""
        ahead = [begin(2, 1, 5, 4, 0, 2, 4, 2), event(4, 7), event(4, 8), event(6, 1)]
        rest = [event(4, 9), MARK, ticks(1), event(4, 1), event(6, 2)]
        plain = ask(*ahead, *rest)
        broken = ask(*ahead, refused, *rest)
        self.assertEqual(broken.pop(len(ahead)), [refusal])
        self.assertEqual(broken, plain)

    def test_behind_each_refusal(self):
        self.behind(begin(3, 0, 0, 1), -1)
        self.behind(begin(0, 2, 0, 1), -2)
        self.behind(begin(0, 0), -3)
        self.behind(begin(0, 0, 0, 1, 0), -3)
        self.behind(begin(0, 0, 0, 0), -3)

    def test_behind_a_refusal_when_the_mark_has_passed(self):
        line = ask(event(2, 5), MARK, begin(3, 0, 0, 1), event(2, 6), begin(0, 0), MARK)
        self.assertEqual(line[2:], [[-1], taken(told(2, 0, 2, 2, 11)), [-3], [-4]])

    def test_behind_a_refusal_at_the_line_s_beginning(self):
        line = ask(begin(1, 1, 9), event(0, 1), event(0, 2), event(0, 3), event(0, 4))
        self.assertEqual(line, [[-3], taken(), taken(told(0, 0, 0, 2, 3)), taken(), taken(told(0, 1, 0, 2, 7))])


class JustOneTrigger(unittest.TestCase):
    def granted(self, *trigger):
        self.assertEqual(ask(begin(0, 0, *trigger)), [[0]], trigger)

    def refused(self, *trigger):
        self.assertEqual(ask(begin(0, 0, *trigger)), [[-3]], trigger)

    def test_each_sort(self):
        for trigger in ([0, 1], [1, 0], [2], [3], [4, 2], [5, 2, 3], [6, 2, 3], [7, 2, 3], [8, 2, 3]):
            self.granted(*trigger)

    def test_parts_of_several_numbers(self):
        self.granted(5, 0, 7, 1, 8)
        self.granted(7, 4, 0, 3, 8, 1, 0, 6, 2, 0, 9)

    def test_no_numbers(self):
        self.refused()

    def test_numbers_that_end_too_soon(self):
        for trigger in ([0], [1], [4], [5], [5, 2], [6, 2], [7, 2], [8, 2], [5, 0, 2], [6, 2, 0], [4, 1], [5, 4, 2]):
            self.refused(*trigger)

    def test_numbers_left_over(self):
        for trigger in ([0, 1, 2], [1, 1, 0], [2, 2], [3, 0], [4, 2, 2], [5, 2, 3, 3], [8, 2, 2, 2], [4, 0, 2, 0, 2]):
            self.refused(*trigger)

    def test_a_number_that_begins_no_trigger(self):
        for sort in (9, 10, 11, TOO_LARGE):
            self.refused(sort)
            self.refused(sort, 2)
            self.refused(sort, 2, 2)
            self.refused(4, sort)
            self.refused(4, sort, 2)
            self.refused(5, sort, 2)
            self.refused(5, 2, sort)
            self.refused(7, 2, sort, 2)

    def test_how_many_events(self):
        self.refused(0, 0)
        self.granted(0, 1)
        self.granted(0, 1000)
        self.refused(0, 1001)
        self.refused(0, TOO_LARGE)
        self.refused(5, 2, 0, 0)
        self.refused(4, 0, 1001)

    def test_how_many_ticks(self):
        self.granted(1, 0)
        self.granted(1, 1000)
        self.refused(1, 1001)
        self.refused(1, TOO_LARGE)
        self.refused(6, 1, 1001, 2)

    def test_how_deep(self):
        for leaf in ([0, 1], [1, 0], [2], [3]):
            self.granted(*[4] * 9, *leaf)
            self.refused(*[4] * 10, *leaf)
        for sort in (5, 6, 7, 8):
            self.granted(*[sort] * 9, *[2] * 10)
            self.refused(*[sort] * 10, *[2] * 11)
            self.granted(*[sort, 2] * 9, 2)
            self.refused(*[sort, 2] * 10, 2)
        self.granted(5, *[4] * 8, 2, *[4] * 8, 2)
        self.refused(5, 2, *[4] * 9, 2)
        self.refused(5, *[4] * 9, 2, 2)
        self.refused(*[4] * 60)
        self.refused(*[5] * 60)

    def test_how_many_numbers(self):
        fifty_nine = balanced(30, [2])
        sixty = balanced(29, [2])[:-1] + [7, 0, 4, 2]
        self.assertEqual((len(fifty_nine), len(sixty)), (59, 60))
        self.granted(*fifty_nine)
        self.granted(*sixty)
        self.granted(4, *fifty_nine)
        self.refused(4, *sixty)
        self.refused(*balanced(31, [2]))
        self.refused(*balanced(35, [3]), 3)
        self.refused(*[2] * 70)

    def test_the_row_s_length_is_kept_to(self):
        line = ask(begin(0, 0, *[3] * 70), event(0, 1), begin(0, 0), event(0, 1))
        self.assertEqual(line, [[-3], taken(), [-3], taken(told(0, 0, 0, 2, 2))])


if __name__ == "__main__":
    unittest.main()
