"""The interface: how calls and answers stand in their lists, and what a call of answers leaves behind."""

import contextlib
import inspect
import io
import random
import sys
import unittest
from unittest import mock

from calls import HIGHEST, LOWEST, SECTION
from calls import cancel, may, one_list, points, raw_route, route, set_, signal, taken_apart
from yardlocks.desk import answers

BUILT = [SECTION] * 6 + [points(k) for k in range(6)] + [signal(-1), signal(0), signal(5)]


class OnlyRead(list):
    """A list that fails at whatever would change it, even for a while."""

    def refuse(self, *handed, **named):
        raise AssertionError("what is handed in was changed")

    append = extend = insert = pop = remove = clear = sort = reverse = refuse
    __setitem__ = __delitem__ = __iadd__ = __imul__ = refuse


def some_number(source, most):
    return source.choice([source.randrange(most), source.randrange(most), -1, most, LOWEST, HIGHEST])


def some_route(source):
    of_signal, own, n, m = source.randrange(4), source.randrange(4), source.randrange(5), source.randrange(4)
    if not (1 <= own <= n and 1 <= n):
        return raw_route(of_signal, own, n, m)
    sections = [source.randrange(7) for k in range(n)]
    return route(of_signal, own, sections, [(source.randrange(7), source.choice([0, 1, 1, 2])) for k in range(m)])


def some_call(source):
    kind = source.choice("route route may set set set cancel points signal section".split())
    if kind == "section":
        return SECTION
    if kind == "points":
        return points(some_number(source, 6))
    if kind == "signal":
        return signal(some_number(source, 6))
    if kind == "route":
        return some_route(source)
    number = some_number(source, 12)
    return {"may": may, "set": set_, "cancel": cancel}[kind](number)


def some_calls(seed):
    source = random.Random(seed)
    calls = BUILT + [some_call(source) for k in range(300)]
    return calls


class FormTest(unittest.TestCase):
    def test_no_calls_no_answers(self):
        self.assertEqual(answers([]), [])

    def test_each_answer_has_its_count_before_it(self):
        calls = [1, 1, 2, 1, 3, -1, 4, 0, 1, 2, 1, 4, 1, 0, 0, 1, 5, 0, 6, 0, 6, 0, 7, 0, 7, 0]
        told = [1, 0, 1, 1, 1, 0, 1, 0, 1, 0, 1, 0, 1, 0, 1, -3, 1, 0, 1, -3]
        self.assertEqual(answers(calls), told)

    def test_a_refusal_is_one_number_too(self):
        self.assertEqual(answers([2, 0, 3, 0, 4, 0, 1, 1, 0, 1, 0, 5, 0, 6, 0, 7, 0]), [1, -2] * 6)

    def test_a_refused_routes_row_is_passed_over(self):
        # Its numbers, read as calls, would be sections.
        self.assertEqual(answers([4, 63, 1, 3, 1, 5, 1, 1, 1, 1, 1, 1]), [1, -2, 1, 0])
        self.assertEqual(answers([4, 64, 1, 3, 1, 0, 1]), [1, -2, 1, 0])

    def test_the_answer_is_a_list_of_whole_numbers(self):
        told = answers(one_list(some_calls(0)))
        self.assertIs(type(told), list)
        self.assertEqual({type(number) for number in told}, {int})

    def test_500_calls_with_the_longest_rows(self):
        sections, pairs = range(16), [(which, 1) for which in range(16)]
        calls = [SECTION] * 16 + [points(0)] * 16 + [signal(-1)] + [route(0, 16, sections, pairs)] * 467
        told = [row[0] for row in taken_apart(answers(one_list(calls)))]
        self.assertEqual(told, [*range(16), *range(16), 0, *range(256)] + [-8] * 211)

    def test_long_lists_are_gone_through_by_loops(self):
        calls = one_list([SECTION] * 64 + [signal(-1)] + [route(0, 1, [0])] * 256 + [may(255)] * 179)
        limit = sys.getrecursionlimit()
        sys.setrecursionlimit(len(inspect.stack()) + 40)
        try:
            told = answers(calls)
        finally:
            sys.setrecursionlimit(limit)
        self.assertEqual(len(told), 1000)


class NothingLeftBehindTest(unittest.TestCase):
    def test_what_is_handed_in_is_not_changed(self):
        for seed in range(20):
            calls = one_list(some_calls(seed))
            told = answers(OnlyRead(calls))
            self.assertEqual(told, answers(list(calls)))
            handed = list(calls)
            answers(handed)
            self.assertEqual(handed, calls)

    def test_a_second_time_is_like_the_first(self):
        for seed in range(20):
            calls = one_list(some_calls(seed))
            first = answers(calls)
            kept = list(first)
            self.assertEqual(answers([1, 3, 0]), [1, 0, 1, 0])
            second = answers(calls)
            self.assertEqual(second, kept)
            self.assertEqual(first, kept)
            self.assertIsNot(first, second)

    def test_two_empty_answers_are_two_lists(self):
        answers([]).append(5)
        self.assertEqual(answers([]), [])

    def test_what_is_refused_and_may_change_nothing(self):
        refused = 0
        for seed in range(60):
            calls = some_calls(seed)
            rows = taken_apart(answers(one_list(calls)))
            left = [(call, row) for call, row in zip(calls, rows) if row[0] >= 0 and call[0] != 5]
            refused += len(rows) - len(left)
            told = taken_apart(answers(one_list([call for call, row in left])))
            self.assertEqual(told, [row for call, row in left], seed)
        self.assertGreater(refused, 60 * 50)

    def test_every_refusal_is_met_by_some_calls(self):
        met = set()
        for seed in range(60):
            calls = some_calls(seed)
            rows = taken_apart(answers(one_list(calls)))
            met |= {(call[0], min(row[0], 0)) for call, row in zip(calls, rows)}
        for kind in (5, 6):
            self.assertLessEqual({(kind, answer) for answer in (0, -2, -3, -4, -5)}, met)
        self.assertLessEqual({(7, 0), (7, -2), (7, -3)}, met)

    def test_nothing_is_printed_read_or_imported(self):
        calls = one_list(some_calls(1))
        out, err = io.StringIO(), io.StringIO()
        known = set(sys.modules)
        forbidden = mock.Mock(side_effect=AssertionError("the program reads"))
        with contextlib.redirect_stdout(out), contextlib.redirect_stderr(err):
            with mock.patch("builtins.open", forbidden), mock.patch("builtins.input", forbidden):
                with mock.patch("sys.stdin", None):
                    answers(calls)
        self.assertEqual((out.getvalue(), err.getvalue()), ("", ""))
        self.assertEqual(set(sys.modules) - known, set())


if __name__ == "__main__":
    unittest.main()
