"""Promise 3, soon: how many events or ticks it takes till a trigger fires next."""

import unittest

from panetriggers.trigger import DELAYING, EVENT, NTH, TICK, look_ahead
from tests.helper import MARK, TOO_LARGE, ask, begin, changes, event, key, soon, taken, ticks, told

WORDS = {'e': event(3, 1), 't': ticks(1), 'm': MARK}


def till(trigger, heard):
    """How soon a trigger fires by events, and by ticks, behind what it heard."""
    line = ask(begin(0, 0, *trigger), *[WORDS[sign] for sign in heard], soon(3, 0), soon(3, 1))
    return [answer[0] for answer in line[-2:]]


class Sorts(unittest.TestCase):
    def check(self, trigger, cases):
        for heard, expected in cases.items():
            self.assertEqual(till(trigger, heard), expected, (trigger, heard))

    def test_events(self):
        self.check((0, 4), {'e': [3, 0], 'ee': [2, 0], 'eee': [1, 0], 'ettt': [3, 0], 'em': [3, 0], 'me': [3, 0],
                            'etem': [2, 0]})

    def test_ticks(self):
        self.check((1, 3), {'e': [0, 3], 'et': [0, 2], 'ett': [0, 1], 'ete': [0, 2], 'eee': [0, 3], 'tte': [0, 3],
                            'em': [0, 3], 'me': [0, 3], 'met': [0, 2]})

    def test_no_ticks(self):
        self.check((7, 0, 1, 1, 0), {'e': [1, 0], 'et': [1, 0], 'em': [1, 0], 'me': [1, 0]})

    def test_the_mark(self):
        self.check((2,), {'e': [0, 0], 'eet': [0, 0]})
        self.check((4, 2), {'e': [0, 0], 'em': [0, 0], 'me': [0, 0]})

    def test_never(self):
        self.check((3,), {'e': [0, 0], 'eet': [0, 0], 'em': [0, 0], 'me': [0, 0]})

    def test_again(self):
        self.check((4, 0, 1), {'e': [1, 0], 'et': [1, 0], 'em': [1, 0]})
        self.check((4, 0, 3), {'e': [2, 0], 'ee': [1, 0], 'eee': [3, 0], 'eeee': [2, 0], 'etme': [1, 0]})
        # Begun anew, a delay waits for an event of its own: ticks alone don't fire it.
        self.check((4, 1, 2), {'e': [0, 2], 'et': [0, 1], 'ett': [0, 0], 'ettt': [0, 0], 'ette': [0, 2],
                               'ettet': [0, 1]})
        self.check((4, 1, 0), {'e': [1, 0], 'ee': [1, 0], 'et': [1, 0]})

    def test_whichever_first(self):
        self.check((5, 0, 4, 1, 3), {'e': [3, 3], 'et': [3, 2], 'ee': [2, 3], 'eett': [2, 1], 'eeem': [1, 3]})
        self.check((5, 0, 5, 0, 3), {'e': [2, 0], 'ee': [1, 0]})
        self.check((5, 1, 2, 1, 5), {'e': [0, 2], 'et': [0, 1]})
        self.check((5, 3, 2), {'e': [0, 0]})
        self.check((5, 4, 0, 2, 0, 5), {'e': [1, 0], 'ee': [2, 0], 'eeee': [1, 0]})

    def test_both(self):
        self.check((6, 0, 3, 0, 5), {'e': [4, 0], 'ee': [3, 0], 'eee': [2, 0], 'eeee': [1, 0]})
        self.check((6, 0, 5, 0, 3), {'e': [4, 0], 'eee': [2, 0]})
        self.check((6, 0, 3, 0, 3), {'e': [2, 0]})
        self.check((6, 0, 3, 1, 2), {'e': [0, 0], 'eee': [0, 2], 'eeet': [0, 1], 'ett': [2, 0], 'ette': [1, 0]})
        self.check((6, 2, 0, 3), {'e': [0, 0], 'eee': [0, 0], 'em': [2, 0], 'me': [2, 0], 'eem': [1, 0]})
        # One that has fired hears no more, though it is never over.
        self.check((6, 4, 0, 2, 0, 5), {'e': [4, 0], 'ee': [3, 0], 'eeee': [1, 0]})
        self.check((6, 4, 0, 2, 3), {'e': [0, 0], 'ee': [0, 0]})

    def test_in_turn(self):
        self.check((7, 0, 3, 0, 2), {'e': [2, 0], 'ee': [1, 0], 'eee': [2, 0], 'eeee': [1, 0]})
        self.check((7, 0, 1, 1, 2), {'e': [0, 0], 'et': [0, 0], 'ee': [0, 2], 'eet': [0, 1]})
        self.check((7, 1, 2, 0, 2), {'e': [0, 2], 'et': [0, 1], 'ett': [2, 0], 'ette': [1, 0]})
        self.check((7, 2, 0, 3), {'e': [0, 0], 'em': [3, 0], 'me': [3, 0], 'mee': [2, 0]})
        self.check((7, 4, 0, 2, 0, 1), {'e': [1, 0], 'ee': [2, 0]})

    def test_until(self):
        self.check((8, 4, 0, 3, 1, 4), {'e': [2, 4], 'et': [2, 3], 'eee': [3, 4], 'eeett': [3, 2]})
        self.check((8, 0, 5, 0, 3), {'e': [2, 0], 'ee': [1, 0]})
        self.check((8, 0, 3, 0, 5), {'e': [2, 0], 'ee': [1, 0]})
        self.check((8, 4, 0, 2, 2), {'e': [1, 0], 'ee': [2, 0]})

    def test_nested(self):
        early_by_the_mark_and_late = (7, 8, 4, 1, 10, 2, 4, 0, 2)
        self.check(early_by_the_mark_and_late, {
            'e': [0, 10], 'et': [0, 9], 'e' + 't' * 10: [0, 0], 'e' + 't' * 10 + 'e': [0, 10], 'em': [2, 0],
            'eme': [1, 0], 'emee': [2, 0], 'me': [2, 0]})
        self.check((4, 6, 0, 2, 1, 3), {'e': [0, 0], 'ee': [0, 3], 'ettt': [1, 0], 'eettt': [0, 0]})
        self.check((5, 6, 0, 4, 0, 2, 4, 7, 0, 3, 1, 1), {'e': [2, 0], 'eee': [1, 0]})
        self.check((6, 7, 0, 2, 0, 9, 8, 4, 0, 4, 1, 2), {'e': [3, 0], 'ee': [2, 2], 'eet': [2, 1], 'ett': [1, 0]})
        self.check((4,) * 9 + (0, 3), {'e': [2, 0], 'eee': [3, 0], 'eeee': [2, 0]})


class Asked(unittest.TestCase):
    def test_right_behind_as_many_it_fires(self):
        line = ask(begin(0, 0, 4, 0, 5), event(3, 1), soon(3, 0), *[event(3, 1)] * 4, soon(3, 0))
        self.assertEqual(line[2:], [[4], taken(), taken(), taken(), taken(told(3, 0, 0, 5, 5)), [5]])
        line = ask(begin(0, 0, 1, 5), event(3, 1), soon(3, 1), ticks(4), soon(3, 1), ticks(1))
        self.assertEqual(line[2:], [[5], changes(), [1], changes(told(3, 0, 0, 1, 1))])

    def test_each_key_by_itself(self):
        line = ask(begin(0, 0, 5, 0, 5, 1, 9), event(3, 1), event(0, 1), ticks(2), event(3, 1), event(9, 1),
                   soon(0, 0), soon(0, 1), soon(3, 0), soon(3, 1), soon(9, 0), soon(9, 1))
        self.assertEqual(line[6:], [[4], [7], [3], [7], [4], [9]])

    def test_a_firing_that_will_tell_nothing(self):
        for empties in (0, 1):
            line = ask(begin(0, empties, 8, 4, 0, 1, 1, 3), event(3, 1), soon(3, 1), ticks(1), soon(3, 1))
            self.assertEqual([line[2], line[4]], [[3], [2]])

    def test_in_every_mode(self):
        for mode in (0, 1, 2):
            self.assertEqual(ask(begin(mode, 0, 4, 0, 2), event(3, 1), event(3, 1), soon(3, 0))[3], [2])

    def test_without_a_begin_ahead(self):
        self.assertEqual(ask(event(3, 1), soon(3, 0), soon(3, 1), event(3, 1), soon(3, 0))[1::3], [[1], [2]])


class Far(unittest.TestCase):
    def test_the_most_events(self):
        self.assertEqual(till((0, 1000), 'e'), [999, 0])
        self.assertEqual(till((4, 7, 0, 1, 0, 1000), 'e'), [1000, 0])

    def test_the_most_ticks(self):
        self.assertEqual(till((1, 1000), 'e'), [0, 1000])
        self.assertEqual(till((1, 1000), 'et'), [0, 999])

    def test_a_thousand_and_a_thousand_in_turn(self):
        # It fires with the first of the two as well: that one is soonest.
        self.assertEqual(till((7, 0, 1000, 0, 1000), 'e'), [999, 0])
        self.assertEqual(till((7, 0, 1, 7, 0, 1000, 0, 1000), 'e'), [1000, 0])

    def test_looked_ahead_two_thousand_and_no_further(self):
        # A trigger that numbers tell fires by the 1000th, if at all, so the edge is
        # tried on triggers that no numbers tell.
        self.assertEqual([look_ahead((NTH, n), EVENT) for n in (1, 1999, 2000, 2001)], [1, 1999, 2000, 0])
        self.assertEqual([look_ahead((DELAYING, d), TICK) for d in (1, 1999, 2000, 2001)], [1, 1999, 2000, 0])


class Refused(unittest.TestCase):
    def test_none_of_the_key_has_come(self):
        line = ask(soon(0, 0), event(3, 1), soon(2, 0), soon(4, 1), soon(10, 0), soon(13, 0), soon(TOO_LARGE, 1))
        self.assertEqual([line[0]] + line[2:], [[-5]] * 6)

    def test_its_event_was_refused(self):
        self.assertEqual(ask(event(3, 1000001), soon(3, 0), event(10, 1), soon(10, 0)), [[-1], [-5]] * 2)

    def test_behind_begin(self):
        self.assertEqual(ask(event(3, 1), begin(0, 0, 0, 3), soon(3, 0))[2], [-5])

    def test_sort(self):
        line = ask(event(3, 1), soon(3, 0), soon(3, 1), *[soon(3, sort) for sort in range(2, 12)], soon(3, TOO_LARGE))
        self.assertEqual(line[1:], [[1], [0]] + [[-1]] * 11)

    def test_over(self):
        line = ask(begin(0, 0, 0, 1), event(3, 1), soon(3, 0), soon(3, 1), event(3, 1), soon(3, 0))
        self.assertEqual([line[2], line[3], line[5]], [[-6]] * 3)

    def test_over_by_ticks_or_by_the_mark(self):
        self.assertEqual(till((1, 2), 'ett'), [-6, -6])
        self.assertEqual(till((2,), 'em'), [-6, -6])
        self.assertEqual(till((2,), 'me'), [-6, -6])
        self.assertEqual(till((8, 4, 0, 2, 2), 'em'), [-6, -6])

    def test_only_the_key_that_is_over(self):
        line = ask(begin(0, 0, 0, 2), event(3, 1), event(3, 1), event(4, 1), soon(3, 0), soon(4, 0))
        self.assertEqual(line[4:], [[-6], [1]])

    def test_the_key_ahead_of_the_sort(self):
        self.assertEqual(ask(event(3, 1), soon(4, 2), soon(10, TOO_LARGE))[1:], [[-5], [-5]])

    def test_the_sort_ahead_of_being_over(self):
        line = ask(begin(0, 0, 0, 1), event(3, 1), soon(3, 2), soon(3, TOO_LARGE), soon(3, 1), soon(4, 2))
        self.assertEqual(line[2:], [[-1], [-1], [-6], [-5]])

    def test_all_is_as_it_was(self):
        line = ask(begin(0, 0, 0, 2), event(3, 5), soon(3, 2), soon(4, 0), key(3), event(3, 6), soon(3, 0), key(3))
        self.assertEqual(line[2:], [[-1], [-5], [0, 1, 5, 1, 5, 0], taken(told(3, 0, 0, 2, 11)), [-6],
                                    [1, 0, 0, 2, 11, 1]])


if __name__ == "__main__":
    unittest.main()
