"""The interface: how calls and answers stand in their lists, and what a call of answers leaves behind."""

import contextlib
import inspect
import io
import sys
import unittest
from unittest import mock

from calls import SECTION
from calls import ask_rows, look, may, one_list, points, route, set_, signal, taken_apart, tell_route, track
from somecalls import ROUTES, SECTIONS, some_calls, some_trains
from yardlocks.desk import answers

# The calls that only ask: may, aspect and the three that tell.
ASKING = (5, 11, 12, 13, 14)


class OnlyRead(list):
    """A list that fails at whatever would change it, even for a while."""

    def refuse(self, *handed, **named):
        raise AssertionError("what is handed in was changed")

    append = extend = insert = pop = remove = clear = sort = reverse = refuse
    __setitem__ = __delitem__ = __iadd__ = __imul__ = refuse


class FormTest(unittest.TestCase):
    def test_no_calls_no_answers(self):
        self.assertEqual(answers([]), [])

    def test_each_answer_has_its_count_before_it(self):
        calls = [1, 1, 2, 1, 3, -1, 4, 0, 1, 2, 1, 4, 1, 0, 0, 1, 5, 0, 6, 0, 6, 0, 7, 0, 7, 0]
        told = [1, 0, 1, 1, 1, 0, 1, 0, 1, 0, 1, 0, 1, 0, 1, -3, 1, 0, 1, -3]
        self.assertEqual(answers(calls), told)

    def test_a_refusal_is_one_number_too(self):
        self.assertEqual(answers([2, 0, 3, 0, 4, 0, 1, 1, 0, 1, 0, 5, 0, 6, 0, 7, 0]), [1, -2] * 6)
        self.assertEqual(answers([8, 0, 1, 9, 0, 1, 10, 0, 11, 0, 12, 0, 13, 0, 14, 0]), [1, -2] * 7)

    def test_the_tell_calls_tell_more_behind_their_0(self):
        built = [1, 1, 2, 1, 3, -1, 4, 0, 1, 2, 1, 4, 1, 0, 0, 1, 6, 0, 8, 1, 1, 9, 0, 1, 10, 5]
        told = [1, 0, 1, 1, 1, 0, 1, 0, 1, 0, 1, 0, 1, 0, 1, 0, 1, 0]
        self.assertEqual(answers(built), told)
        asked = [11, 0, 12, 0, 12, 1, 13, 0, 14, 0, 12, 2, 13, 1, 14, 1, 11, 0]
        told += [1, 0, 3, 0, 0, 0, 3, 0, 1, 0, 4, 0, 1, 1, 1, 4, 0, -1, 1, 0, 1, -2, 1, -2, 1, -2, 1, 0]
        self.assertEqual(answers(built + asked), told)

    def test_calls_of_two_numbers_are_passed_over_whole(self):
        # Their second numbers, read as calls, would be sections.
        self.assertEqual(answers([8, 0, 1, 1]), [1, -2, 1, 0])
        self.assertEqual(answers([9, 0, 1, 1]), [1, -2, 1, 0])
        self.assertEqual(answers([10, 1, 11, 1, 12, 1, 13, 1, 14, 1, 1]), [1, 0] + [1, -2] * 4 + [1, 0])

    def test_a_refused_routes_row_is_passed_over(self):
        # Its numbers, read as calls, would be sections.
        self.assertEqual(answers([4, 63, 1, 3, 1, 5, 1, 1, 1, 1, 1, 1]), [1, -2, 1, 0])
        self.assertEqual(answers([4, 64, 1, 3, 1, 0, 1]), [1, -2, 1, 0])

    def test_the_answer_is_a_list_of_whole_numbers(self):
        for seed in range(10):
            told = answers(one_list(some_calls(seed))) + answers(one_list(some_trains(seed)))
            self.assertIs(type(told), list)
            self.assertEqual({type(number) for number in told}, {int})

    def test_500_calls_with_the_longest_rows(self):
        sections, pairs = range(16), [(which, 1) for which in range(16)]
        calls = [SECTION] * 16 + [points(0)] * 16 + [signal(-1)] + [route(0, 16, sections, pairs)] * 467
        told = [row[0] for row in taken_apart(answers(one_list(calls)))]
        self.assertEqual(told, [*range(16), *range(16), 0, *range(256)] + [-8] * 211)

    def test_500_calls_with_many_routes_under_way(self):
        # 60 routes of a section each, each with a train in it.
        built = [SECTION] * 60 + [signal(-1)] * 60 + [route(k, 1, [k]) for k in range(60)]
        built += [set_(k) for k in range(60)] + [track(k, 1) for k in range(60)]
        calls = built + [tell_route(k) for k in range(60)] + [track(k, 0) for k in range(60)]
        calls += [tell_route(k) for k in range(60)] + [[10, 3600]] * 20
        self.assertEqual(len(calls), 500)
        told = ask_rows(calls)
        self.assertEqual(told[:180], [[k % 60] for k in range(180)])
        self.assertEqual(told[180:300], [[0]] * 120)
        self.assertEqual(told[300:360], [[0, -1, 1, 0]] * 60)
        self.assertEqual(told[360:420], [[0]] * 60)
        self.assertEqual(told[420:], [[0, 0, 0, 0]] * 60 + [[0]] * 20)

    def test_500_mixed_calls(self):
        for seed in range(5):
            calls = some_calls(seed, 500)
            self.assertEqual(len(calls), 500)
            self.assertEqual(len(ask_rows(calls)), 500)

    def test_long_lists_are_gone_through_by_loops(self):
        built = [SECTION] * 64 + [signal(-1)] + [route(0, 1, [0])] * 256
        calls = one_list(built + [may(255)] * 89 + [track(0, 1)] * 90)
        limit = sys.getrecursionlimit()
        sys.setrecursionlimit(len(inspect.stack()) + 40)
        try:
            told = answers(calls)
        finally:
            sys.setrecursionlimit(limit)
        self.assertEqual(len(told), 1000)


class NothingLeftBehindTest(unittest.TestCase):
    # Short enough for LOOK behind them, since a list has at most 500 calls.
    LISTS = [some_calls(seed, 470) for seed in range(20)] + [some_trains(seed, 470) for seed in range(20)]
    LOOK = look(SECTIONS, 6, 4, ROUTES)

    def test_what_is_handed_in_is_not_changed(self):
        for calls in map(one_list, self.LISTS):
            told = answers(OnlyRead(calls))
            self.assertEqual(told, answers(list(calls)))
            handed = list(calls)
            answers(handed)
            self.assertEqual(handed, calls)

    def test_a_second_time_is_like_the_first(self):
        for calls in map(one_list, self.LISTS):
            first = answers(calls)
            kept = list(first)
            self.assertEqual(answers([1, 3, 0, 12, 0, 13, 0, 14, 0]), [1, 0, 1, 0, 3, 0, 0, -1, 1, -2, 1, -2])
            second = answers(calls)
            self.assertEqual(second, kept)
            self.assertEqual(first, kept)
            self.assertIsNot(first, second)

    def test_two_empty_answers_are_two_lists(self):
        answers([]).append(5)
        self.assertEqual(answers([]), [])

    def test_what_is_refused_and_what_only_asks_changes_nothing(self):
        left_out = 0
        for calls in self.LISTS:
            rows = ask_rows(calls + self.LOOK)
            kept = [(call, row) for call, row in zip(calls, rows) if row[0] >= 0 and call[0] not in ASKING]
            left_out += len(calls) - len(kept)
            told = ask_rows([call for call, row in kept] + self.LOOK)
            self.assertEqual(told, [row for call, row in kept] + rows[len(calls):])
        self.assertGreater(left_out, len(self.LISTS) * 100)

    def test_every_refusal_is_met_by_these_lists(self):
        met = set()
        for calls in self.LISTS:
            met |= {(call[0], min(row[0], 0)) for call, row in zip(calls, ask_rows(calls))}
        for kind in range(2, 15):
            self.assertLessEqual({(kind, 0), (kind, -2)}, met)
        for kind in (5, 6):
            self.assertLessEqual({(kind, answer) for answer in (-3, -4, -5)}, met)
        self.assertIn((7, -3), met)

    def test_nothing_is_printed_read_or_imported(self):
        lists = [one_list(calls) for calls in self.LISTS]
        out, err = io.StringIO(), io.StringIO()
        known = set(sys.modules)
        forbidden = mock.Mock(side_effect=AssertionError("the program reads"))
        with contextlib.redirect_stdout(out), contextlib.redirect_stderr(err):
            with mock.patch("builtins.open", forbidden), mock.patch("builtins.input", forbidden):
                with mock.patch("sys.stdin", None):
                    for calls in lists:
                        answers(calls)
        self.assertEqual((out.getvalue(), err.getvalue()), ("", ""))
        self.assertEqual(set(sys.modules) - known, set())


if __name__ == "__main__":
    unittest.main()
