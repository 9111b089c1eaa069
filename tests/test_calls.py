"""Promise 2, and what holds for every line: event, ticks, mark, and the list of calls."""

import ast
import contextlib
import io
import pathlib
import unittest

import panetriggers
from panetriggers.stretch import answers
from tests.helper import MARK, TOO_LARGE, ask, begin, changes, event, taken, taken_back, ticks, told


class Event(unittest.TestCase):
    def test_key(self):
        self.assertEqual(ask(event(0, 5), event(9, 5)), [taken(), taken()])
        self.assertEqual(ask(event(10, 5), event(TOO_LARGE, 5)), [[-1], [-1]])

    def test_value(self):
        self.assertEqual(ask(event(0, 0), event(1, 1000000)), [taken(), taken()])
        self.assertEqual(ask(event(0, 1000001), event(1, TOO_LARGE)), [[-1], [-1]])

    def test_key_and_value(self):
        self.assertEqual(ask(event(10, 1000001)), [[-1]])

    def test_refused_though_the_trigger_is_over(self):
        self.assertEqual(ask(begin(0, 0, 0, 1), event(4, 1), event(4, 1000001))[2], [-1])

    def test_all_is_as_it_was_behind_a_refusal(self):
        line = ask(begin(1, 0, 0, 2), event(4, 1), event(4, 1000001), event(10, 1), event(14, 1), event(4, 2))
        self.assertEqual(line[2:], [[-1], [-1], [-1], taken(told(4, 0, 0, 2, 3))])

    def test_a_refused_event_begins_no_trigger(self):
        line = ask(begin(0, 0, 1, 1), event(4, 1000001), ticks(3), event(4, 2), ticks(1))
        self.assertEqual(line[2:], [changes(), taken(), changes(told(4, 0, 0, 1, 2))])


class Ticks(unittest.TestCase):
    def test_how_many(self):
        self.assertEqual(ask(ticks(0), ticks(1), ticks(200)), [changes(), changes(), changes()])
        self.assertEqual(ask(ticks(201), ticks(TOO_LARGE)), [[-1], [-1]])

    def test_none(self):
        line = ask(begin(0, 0, 1, 1), event(4, 2), ticks(0), ticks(1))
        self.assertEqual(line[2:], [changes(), changes(told(4, 0, 0, 1, 2))])

    def test_two_hundred(self):
        line = ask(begin(0, 0, 1, 200), event(4, 2), ticks(200))
        self.assertEqual(line[2], changes(told(4, 0, 0, 1, 2)))
        line = ask(begin(0, 0, 1, 201), event(4, 2), ticks(200), ticks(1))
        self.assertEqual(line[2:], [changes(), changes(told(4, 0, 0, 1, 2))])

    def test_all_is_as_it_was_behind_a_refusal(self):
        line = ask(begin(0, 0, 1, 2), event(4, 2), ticks(1), ticks(201), ticks(0), ticks(1))
        self.assertEqual(line[3:], [[-1], changes(), changes(told(4, 0, 0, 1, 2))])

    def test_several_keys_at_one_tick(self):
        line = ask(begin(0, 0, 1, 2), event(9, 1), event(0, 2), event(5, 3), ticks(5))
        self.assertEqual(line[4], changes(told(0, 0, 0, 1, 2), told(5, 0, 0, 1, 3), told(9, 0, 0, 1, 1)))

    def test_an_earlier_tick_goes_ahead_of_a_lesser_key(self):
        line = ask(begin(0, 0, 1, 3), event(9, 1), event(8, 7), ticks(1), event(0, 2), ticks(2), ticks(0), ticks(1))
        self.assertEqual(line[5:], [changes(told(8, 0, 0, 1, 7), told(9, 0, 0, 1, 1)), changes(),
                                    changes(told(0, 0, 0, 1, 2))])
        line = ask(begin(0, 0, 1, 3), event(9, 1), ticks(1), event(0, 2), ticks(200))
        self.assertEqual(line[4], changes(told(9, 0, 0, 1, 1), told(0, 0, 0, 1, 2)))

    def test_one_call_or_many(self):
        ahead = [begin(2, 1, 5, 4, 1, 1, 4, 1, 3), event(1, 1), event(2, 2)]
        whole = ask(*ahead, ticks(4))[-1]
        parts = ask(*ahead, *[ticks(1)] * 4)[-4:]
        self.assertEqual(whole[1:], [number for part in parts for number in part[1:]])
        self.assertEqual(whole, changes(told(1, 0, 0, 1, 1), told(2, 0, 0, 1, 2),
                                        taken_back(1, 0, 0, 1, 1), told(1, 1, 0, 1, 1),
                                        taken_back(2, 0, 0, 1, 2), told(2, 1, 0, 1, 2)))


class Mark(unittest.TestCase):
    def test_but_once(self):
        self.assertEqual(ask(MARK, MARK, MARK), [changes(), [-4], [-4]])

    def test_again_behind_begin(self):
        self.assertEqual(ask(MARK, begin(0, 0, 2), MARK, MARK), [changes(), [0], changes(), [-4]])

    def test_all_is_as_it_was_behind_a_refusal(self):
        line = ask(begin(0, 1, 4, 5, 2, 0, 2), event(1, 5), MARK, event(1, 6), MARK, event(1, 7))
        self.assertEqual(line[2:], [changes(told(1, 0, 1, 1, 5)), taken(), [-4], taken(told(1, 1, 2, 2, 13))])

    def test_not_heard_by_what_is_over(self):
        line = ask(begin(0, 1, 5, 2, 0, 1), event(1, 5), MARK)
        self.assertEqual(line[2], changes())


class Line(unittest.TestCase):
    def test_its_beginning(self):
        calls = [event(1, 5), event(1, 6), event(1, 7), ticks(9), MARK, event(1, 8), event(2, 1), event(2, 2)]
        plain = ask(*calls)
        self.assertEqual(plain, ask(begin(0, 0, 4, 0, 2), *calls)[1:])
        self.assertEqual(plain, [
            taken(), taken(told(1, 0, 0, 2, 11)), taken(), changes(), changes(), taken(told(1, 1, 2, 2, 15)),
            taken(), taken(told(2, 0, 2, 2, 3))])

    def test_what_is_given_back(self):
        calls = [0, 2, 1, 3, 4, 0, 2, 1, 3, 5, 1, 3, 6, 1, 11, 1, 2, 0, 2, 201, 3, 3, 1, 3, 7, 1, 3, 8]
        self.assertEqual(answers(calls), [
            1, 0,
            2, 1, 0,
            8, 1, 1, 1, 3, 0, 0, 2, 11,
            1, -1,
            1, 0,
            1, -1,
            1, 0,
            1, -4,
            2, 1, 0,
            14, 1, 2, 0, 3, 0, 0, 2, 11, 1, 3, 1, 2, 4, 26])

    def test_numbers_are_ints_in_a_list(self):
        given = answers([0, 2, 1, 2, 1, 1, 1, 3, 5, 2, 2, 1, 3, 5, 3, 3, 0, 3, 0, 0])
        self.assertEqual({type(number) for number in given}, {int})
        self.assertIs(type(given), list)

    def test_what_is_handed_in_stays_as_it_was(self):
        calls = [0, 1, 1, 5, 5, 0, 3, 1, 2, 1, 0, 5, 1, 0, 6, 2, 3, 3, 1, 0, 7, 0, 9, 9, 1, 2]
        kept = list(calls)
        answers(calls)
        self.assertEqual(calls, kept)

    def test_what_is_handed_in_is_only_read(self):
        class Untouched(list):
            def refuse(self, *given):
                raise AssertionError("what is handed in is changed")
            __setitem__ = __delitem__ = __iadd__ = __imul__ = refuse
            append = extend = insert = pop = remove = reverse = sort = clear = refuse
        calls = [0, 1, 1, 3, 4, 0, 1, 1, 0, 5, 2, 3, 3, 1, 10, 7]
        self.assertEqual(answers(Untouched(calls)), answers(calls))

    def test_the_same_list_twice(self):
        calls = [1, 0, 5, 1, 0, 6, 3, 0, 2, 1, 2, 0, 1, 1, 0, 5, 1, 0, 6, 3]
        first = answers(calls)
        answers([0, 1, 1, 1, 3, 1, 0, 9, 3])
        self.assertEqual(answers(calls), first)

    def test_what_is_given_back_is_the_caller_s(self):
        calls = [1, 0, 5, 1, 0, 6]
        first = answers(calls)
        kept = list(first)
        first.clear()
        self.assertEqual(answers(calls), kept)

    def test_prints_nothing(self):
        out = io.StringIO()
        with contextlib.redirect_stdout(out), contextlib.redirect_stderr(out):
            answers([0, 2, 1, 2, 1, 1, 1, 3, 5, 2, 2, 3, 1, 99, 0])
        self.assertEqual(out.getvalue(), "")

    def test_imports_its_own_modules_alone(self):
        files = sorted(pathlib.Path(panetriggers.__file__).parent.glob("*.py"))
        self.assertIn("stretch.py", [file.name for file in files])
        for file in files:
            for node in ast.walk(ast.parse(file.read_text())):
                self.assertNotIsInstance(node, ast.Import, file.name)
                if isinstance(node, ast.ImportFrom):
                    self.assertTrue(node.module.startswith("panetriggers."), file.name)

    def test_sixty_calls(self):
        line = ask(begin(2, 1, *[4] * 9, 1, 1), *[event(key, 1) for key in range(10)], *[ticks(200)] * 49)
        self.assertEqual(line[11], changes(*[told(key, 0, 0, 1, 1) for key in range(10)]))
        self.assertEqual(line[12:], [changes()] * 48)


if __name__ == "__main__":
    unittest.main()
