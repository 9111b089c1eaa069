"""What each sort of trigger does: when it fires and when it is over."""

import unittest

from tests.helper import MARK, ask, begin, changes, event, firings, taken, ticks, told


class Firings(unittest.TestCase):
    def holds(self, trigger, heard, expected):
        self.assertEqual(firings(trigger, heard), expected, (trigger, heard))


class NthEvent(Firings):
    def test_alone(self):
        self.holds([0, 1], 'ee', 'fx')
        self.holds([0, 3], 'eeee', '..fx')

    def test_counts_events_alone(self):
        self.holds([0, 3], 'etmetee', '.....fx')

    def test_a_thousand(self):
        line = [begin(0, 0, 0, 1000)]
        self.assertEqual(ask(*line, *[event(1, 1)] * 59)[1:], [taken()] * 59)


class Delay(Firings):
    def test_none(self):
        self.holds([1, 0], 'ee', 'fx')

    def test_some(self):
        self.holds([1, 1], 'ete', '.fx')
        self.holds([1, 3], 'ettte', '...fx')

    def test_is_counted_from_the_first_event(self):
        self.holds([1, 3], 'etetete', '.....fx')

    def test_hears_no_tick_ahead_of_its_first_event(self):
        self.holds([7, 0, 1, 1, 2], 'etttette', 'f.....fx')

    def test_none_behind_ticks(self):
        self.holds([7, 0, 1, 1, 0], 'ettee', 'f..fx')

    def test_does_not_hear_the_mark(self):
        self.holds([1, 1], 'emte', '..fx')

    def test_a_thousand(self):
        line = ask(begin(0, 0, 1, 1000), event(1, 5), *[ticks(200)] * 4, ticks(199), ticks(1), event(1, 5))
        self.assertEqual(line[2:], [changes()] * 5 + [changes(told(1, 0, 0, 1, 5)), [0, 0]])


class AtMark(Firings):
    def test_alone(self):
        self.holds([2], 'eteme', '...fx')

    def test_does_not_hear_what_is_before_it_begins(self):
        self.holds([7, 0, 2, 2], 'emeett', '..f...')


class Never(Firings):
    def test_alone(self):
        self.holds([3], 'ettemete', '........')


class Again(Firings):
    def test_begins_anew(self):
        self.holds([4, 0, 1], 'eee', 'fff')
        self.holds([4, 0, 2], 'eeeee', '.f.f.')

    def test_a_delay_begins_anew(self):
        self.holds([4, 1, 2], 'etettteett', '...f....' + '.f')
        self.holds([4, 1, 0], 'etee', 'f.ff')

    def test_the_mark_but_once(self):
        self.holds([4, 2], 'emete', '.f...')

    def test_fires_when_its_part_does_though_it_is_not_over(self):
        self.holds([4, 4, 0, 2], 'eeee', '.f.f')

    def test_begins_its_whole_part_anew(self):
        self.holds([4, 7, 0, 1, 0, 2], 'eeeeeee', 'f.ff.ff')
        self.holds([4, 6, 0, 1, 1, 1], 'eeteet', '..f..f')
        self.holds([4, 5, 0, 3, 1, 2], 'eeteteee', '...f...f')
        self.holds([4, 5, 0, 3, 1, 2], 'eetteee', '...f..f')

    def test_never(self):
        self.holds([4, 3], 'etme', '....')


class WhicheverFirst(Firings):
    def test_either(self):
        self.holds([5, 0, 2, 1, 1], 'ee', '.f')
        self.holds([5, 0, 2, 1, 1], 'ete', '.fx')
        self.holds([5, 1, 1, 0, 2], 'eee', '.fx')
        self.holds([5, 1, 1, 0, 2], 'ete', '.fx')

    def test_both_at_one_moment(self):
        self.holds([5, 0, 1, 1, 0], 'ee', 'fx')

    def test_goes_on_while_none_is_over(self):
        self.holds([5, 4, 0, 2, 2], 'eeeeme', '.f.ffx')
        self.holds([5, 2, 4, 0, 2], 'eeeeme', '.f.ffx')
        self.holds([5, 4, 0, 2, 4, 0, 3], 'eeeeeee', '.fff.f.')

    def test_each_hears_all(self):
        self.holds([5, 0, 3, 0, 4], 'eeee', '..fx')
        self.holds([5, 0, 4, 0, 3], 'eeee', '..fx')

    def test_in_an_again_both_begin_anew(self):
        self.holds([4, 5, 0, 2, 0, 3], 'eeeeee', '.f.f.f')


class Both(Firings):
    def test_one_behind_the_other(self):
        self.holds([6, 0, 1, 0, 3], 'eeee', '..fx')
        self.holds([6, 0, 3, 0, 1], 'eeee', '..fx')
        self.holds([6, 0, 2, 2], 'eeme', '..fx')
        self.holds([6, 0, 2, 2], 'emee', '..fx')

    def test_both_at_one_moment(self):
        self.holds([6, 0, 2, 0, 2], 'eee', '.fx')
        self.holds([6, 2, 2], 'eme', '.fx')
        self.holds([6, 0, 1, 1, 0], 'ee', 'fx')

    def test_with_one_that_fires_and_is_not_over(self):
        self.holds([6, 4, 0, 1, 0, 3], 'eeee', '..fx')
        self.holds([6, 0, 3, 4, 0, 1], 'eeee', '..fx')
        self.holds([6, 4, 0, 2, 4, 0, 3], 'eeee', '..fx')

    def test_one_that_has_fired_is_not_asked_to_fire_again(self):
        self.holds([6, 4, 0, 2, 2], 'eeeme', '...fx')
        self.holds([6, 2, 4, 0, 2], 'eeeme', '...fx')

    def test_over_though_its_parts_are_not(self):
        self.holds([6, 4, 0, 1, 4, 0, 1], 'ee', 'fx')
        self.holds([6, 4, 0, 1, 4, 1, 1], 'ete', '.fx')

    def test_never_if_one_never_does(self):
        self.holds([6, 0, 1, 3], 'eeme', '....')
        self.holds([6, 3, 0, 1], 'eeme', '....')

    def test_within_both(self):
        self.holds([6, 6, 0, 1, 0, 2, 6, 2, 0, 3], 'eeeme', '...fx')


class InTurn(Firings):
    def test_the_second_hears_only_what_comes_next(self):
        self.holds([7, 0, 1, 0, 1], 'eee', 'ffx')
        self.holds([7, 0, 2, 0, 3], 'eeeeee', '.f..fx')
        self.holds([7, 2, 2], 'emete', '.f...')
        self.holds([7, 1, 1, 1, 1], 'ettete', '.f..fx')

    def test_the_second_hears_nothing_from_before(self):
        self.holds([7, 0, 1, 2], 'etme', 'f.fx')
        self.holds([7, 1, 2, 0, 2], 'eettee', '...f.f')

    def test_fires_whenever_the_first_does(self):
        self.holds([7, 8, 4, 0, 1, 0, 3, 0, 2], 'eeeeee', 'fff.fx')

    def test_never_comes_to_the_second_if_the_first_is_never_over(self):
        self.holds([7, 4, 0, 2, 0, 1], 'eeee', '.f.f')
        self.holds([7, 3, 0, 1], 'eem', '...')

    def test_not_over_while_the_second_is_not(self):
        self.holds([7, 0, 2, 4, 0, 1], 'eeee', '.fff')
        self.holds([7, 0, 1, 3], 'eem', 'f..')

    def test_in_turn_within_in_turn(self):
        self.holds([7, 7, 0, 1, 1, 1, 0, 2], 'eeteee', 'f.f.fx')
        self.holds([7, 0, 1, 7, 1, 1, 0, 2], 'eeteee', 'f.f.fx')


class Until(Firings):
    def test_over_when_the_second_fires(self):
        self.holds([8, 4, 0, 1, 2], 'eeme', 'fffx')
        self.holds([8, 4, 0, 2, 1, 2], 'eeete' + 'te', '.f..ffx')

    def test_over_when_the_second_fires_though_that_is_not_over(self):
        self.holds([8, 4, 0, 2, 4, 0, 3], 'eeee', '.ffx')
        self.holds([8, 4, 1, 2, 7, 1, 1, 1, 1], 'ete', '.fx')

    def test_over_when_the_first_is(self):
        self.holds([8, 0, 2, 2], 'eee', '.fx')
        self.holds([8, 0, 2, 3], 'eee', '.fx')

    def test_not_over_when_the_first_fires(self):
        self.holds([8, 4, 0, 1, 0, 3], 'eeee', 'fffx')

    def test_both_at_one_moment(self):
        self.holds([8, 0, 2, 0, 2], 'eee', '.fx')
        line = ask(begin(0, 1, 8, 4, 0, 2, 0, 2), event(5, 1), event(5, 2))
        self.assertEqual(line[2], taken(told(5, 0, 0, 2, 3)))

    def test_first_never_fires(self):
        self.holds([8, 3, 0, 2], 'eee', '.fx')

    def test_within_again(self):
        self.holds([4, 8, 4, 0, 2, 0, 3], 'eeeeeee', '.ff.ff.')


class Worked(Firings):
    """Triggers as users say them."""

    def test_at_most_three_times(self):
        self.holds([7, 1, 1, 7, 1, 1, 1, 1], 'etetete', '.f.f.fx')

    def test_early_by_the_mark_and_for_each_late_one(self):
        early = [8, 4, 1, 2, 2]
        self.holds([7, *early, 4, 0, 1], 'ettetteme' + 'te', '..f..f.ff' + '.f')

    def test_nested_ten_deep(self):
        self.holds([4] * 9 + [0, 2], 'eeee', '.f.f')
        self.holds([7, 0, 1] * 9 + [0, 1], 'e' * 11, 'f' * 10 + 'x')
        self.holds([6] * 9 + [0, 1, 0, 2, 0, 3, 0, 4, 0, 5, 0, 6, 0, 7, 0, 8, 0, 9, 0, 10], 'e' * 11, '.' * 9 + 'fx')

    def test_each_key_has_its_own(self):
        line = ask(begin(0, 0, 0, 2), event(1, 1), event(2, 10), event(2, 20), event(1, 2), event(2, 1))
        self.assertEqual(line[1:], [taken(), taken(), taken(told(2, 0, 0, 2, 30)),
                                    taken(told(1, 0, 0, 2, 3)), [0, 0]])

    def test_a_key_s_trigger_begins_with_its_first_event(self):
        line = ask(begin(0, 0, 1, 2), event(1, 1), ticks(1), event(2, 10), ticks(1), ticks(1))
        self.assertEqual(line[4:], [changes(told(1, 0, 0, 1, 1)), changes(told(2, 0, 0, 1, 10))])

    def test_a_key_without_events_hears_no_mark(self):
        line = ask(begin(0, 1, 2), MARK)
        self.assertEqual(line[1], changes())


if __name__ == "__main__":
    unittest.main()
