"""Points 1 to 3 of the document: how sections, points, signals and routes come into the yard."""

import unittest

from calls import HIGHEST, LOWEST, SECTION
from calls import ask, ask_last, ask_rows_last, cancel, may, points, raw_route, route, set_, signal
from calls import tell_points, tell_route, tell_section, track

EXTREMES = (LOWEST, LOWEST + 1, HIGHEST - 1, HIGHEST)

# 20 sections, 20 points (points k in section k), signals 0 (before it: none) and 1 (section 3).
BUILT = [SECTION] * 20 + [points(k) for k in range(20)] + [signal(-1), signal(3)]


class SectionTest(unittest.TestCase):
    def test_sections_are_numbered_from_0_up_to_the_64th(self):
        self.assertEqual(ask([SECTION] * 64), list(range(64)))

    def test_the_65th_is_refused_and_so_is_each_after_it(self):
        self.assertEqual(ask([SECTION] * 67)[63:], [63, -8, -8, -8])

    def test_a_section_is_free_and_not_locked(self):
        told = ask_rows_last([SECTION] * 64, [tell_section(number) for number in range(64)])
        self.assertEqual(told, [[0, 0, -1]] * 64)


class PointsTest(unittest.TestCase):
    def test_points_are_numbered_from_0_whatever_their_section(self):
        calls = [SECTION, SECTION, points(1), points(0), points(1), points(1)]
        self.assertEqual(ask(calls), [0, 1, 0, 1, 2, 3])

    def test_the_32nd_points_are_taken_and_the_33rd_refused(self):
        told = ask([SECTION] + [points(0)] * 34)
        self.assertEqual(told[1:], list(range(32)) + [-8, -8])

    def test_a_section_that_there_isnt(self):
        for section in (-1, 2, 3, 63, 64, 255) + EXTREMES:
            self.assertEqual(ask_last([SECTION] * 2, [points(section), points(1)]), [-2, 0], section)

    def test_nothing_is_there_at_first(self):
        self.assertEqual(ask([points(0), points(-1)]), [-2, -2])

    def test_the_64th_section_can_have_points_the_65th_cant(self):
        self.assertEqual(ask_last([SECTION] * 65, [points(63), points(64)]), [0, -2])

    def test_minus_2_comes_before_minus_8(self):
        full = [SECTION] + [points(0)] * 32
        self.assertEqual(ask_last(full, [points(1), points(-1), points(0)]), [-2, -2, -8])

    def test_points_are_told_0_and_found_nowhere(self):
        told = ask_rows_last([SECTION] + [points(0)] * 32, [tell_points(number) for number in range(32)])
        self.assertEqual(told, [[0, 0, 2, 0]] * 32)

    def test_points_lie_in_the_section_that_was_named(self):
        for section in (0, 1, 2):
            built = [SECTION] * 4 + [points(section), signal(-1), route(0, 1, [3], [(0, 1)])]
            told = [ask_last(built + [track(number, 1)], [may(0)])[0] for number in (0, 1, 2)]
            self.assertEqual([number for number in (0, 1, 2) if told[number] == -5], [section])

    def test_points_that_must_lie_at_0_need_not_be_moved_at_first(self):
        # Points 0 lie in section 0, which is locked: only those that must lie otherwise are refused.
        calls = [SECTION, SECTION, points(0), signal(-1), signal(-1), signal(-1)]
        calls += [route(0, 1, [0]), route(1, 1, [1], [(0, 0)]), route(2, 1, [1], [(0, 1)]), set_(0)]
        self.assertEqual(ask_last(calls, [may(1), may(2)]), [0, -5])


class SignalTest(unittest.TestCase):
    def test_signals_are_numbered_from_0(self):
        calls = [signal(-1), SECTION, SECTION, signal(0), signal(1), signal(1), signal(-1)]
        self.assertEqual(ask(calls), [0, 0, 1, 1, 2, 3, 4])

    def test_the_64th_signal_is_taken_and_the_65th_refused(self):
        self.assertEqual(ask([signal(-1)] * 66), list(range(64)) + [-8, -8])

    def test_a_section_before_it_that_there_isnt(self):
        for before in (-2, -3, 2, 3, 64, 255) + EXTREMES:
            self.assertEqual(ask_last([SECTION] * 2, [signal(before), signal(1)]), [-2, 0], before)

    def test_without_sections_only_minus_1_goes(self):
        self.assertEqual(ask([signal(0), signal(-2), signal(-1)]), [-2, -2, 0])

    def test_minus_2_comes_before_minus_8(self):
        full = [signal(-1)] * 64
        self.assertEqual(ask_last(full, [signal(0), signal(-2), signal(-1)]), [-2, -2, -8])

    def test_the_section_before_it_is_kept(self):
        built = [SECTION] * 3 + [signal(-1), signal(0), signal(1)]
        built += [route(number, 1, [2]) for number in range(3)]
        for section, near in ((0, [0, 120, 0]), (1, [0, 0, 120])):
            told = [ask_last(built, [track(section, 1), set_(k), cancel(k)])[2] for k in range(3)]
            self.assertEqual(told, near)


class RouteTest(unittest.TestCase):
    def is_taken(self, call):
        self.assertEqual(ask_last(BUILT, [call, route(0, 1, [0])]), [0, 1], call)

    def is_refused(self, call):
        # The next route gets the number 0: what was refused took none.
        self.assertEqual(ask_last(BUILT, [call, route(0, 1, [0])]), [-2, 0], call)

    def test_routes_are_numbered_from_0_whatever_their_signal(self):
        calls = [route(1, 1, [0]), route(0, 1, [0]), route(1, 2, [5, 4], [(3, 1)])]
        self.assertEqual(ask_last(BUILT, calls), [0, 1, 2])

    def test_the_256th_is_taken_and_the_257th_refused(self):
        told = ask([SECTION, signal(-1)] + [route(0, 1, [0])] * 258)
        self.assertEqual(told[2:], list(range(256)) + [-8, -8])

    def test_minus_2_comes_before_minus_8(self):
        full = [SECTION, points(0), signal(-1)] + [route(0, 1, [0])] * 256
        wrong = [
            route(1, 1, [0]), raw_route(-1, 1, 1, 0), raw_route(0, 0, 1, 0), raw_route(0, 2, 1, 0),
            raw_route(0, 1, 0, 0), raw_route(0, 1, 17, 0), raw_route(0, 1, 1, -1), raw_route(0, 1, 1, 17),
            route(0, 1, [1]), route(0, 1, [0, 0]), route(0, 1, [0], [(1, 0)]),
            route(0, 1, [0], [(0, 2)]), route(0, 1, [0], [(0, 0), (0, 0)]),
        ]
        self.assertEqual(ask_last(full, wrong), [-2] * len(wrong))
        self.assertEqual(ask_last(full, [route(0, 1, [0], [(0, 1)])]), [-8])

    def test_a_signal_that_there_isnt(self):
        self.is_taken(route(1, 1, [0]))
        # Up to 63 a route's row is handed in, even where there's no such signal.
        for of_signal in (2, 3, 63):
            self.is_refused(route(of_signal, 1, [0, 1], [(0, 1)]))
        for of_signal in (-1, -2, 64, 255) + EXTREMES:
            self.is_refused(raw_route(of_signal, 1, 2, 1))

    def test_how_many_sections(self):
        for n in (1, 2, 15, 16):
            self.is_taken(route(0, 1, range(n)))
        for n in (0, -1, 17, 18, 255) + EXTREMES:
            self.is_refused(raw_route(0, 1, n, 0))
            self.is_refused(raw_route(0, n, n, 0))

    def test_how_many_are_its_own(self):
        for own, n in ((1, 1), (1, 16), (16, 16), (2, 3), (3, 3)):
            self.is_taken(route(0, own, range(n)))
        for own, n in ((0, 1), (-1, 1), (2, 1), (4, 3), (0, 16), (17, 16)):
            self.is_refused(raw_route(0, own, n, 0))
        for own in EXTREMES:
            self.is_refused(raw_route(0, own, 3, 0))

    def test_how_many_points(self):
        for m in (0, 1, 15, 16):
            self.is_taken(route(0, 1, [0], [(which, which % 2) for which in range(m)]))
        self.is_taken(route(0, 16, range(16), [(which, 1) for which in range(4, 20)]))
        for m in (-1, -2, 17, 255) + EXTREMES:
            self.is_refused(raw_route(0, 1, 1, m))

    def test_its_sections_must_be_there(self):
        self.is_taken(route(0, 1, [19]))
        for section in (20, 21, 63, 64, 255):
            self.is_refused(route(0, 1, [section]))
            self.is_refused(route(0, 1, [section, 0]))
            self.is_refused(route(0, 1, [0, 1, section]))

    def test_its_points_must_be_there(self):
        self.is_taken(route(0, 1, [0], [(19, 1)]))
        for which in (20, 21, 31, 32, 255):
            self.is_refused(route(0, 1, [0], [(which, 1)]))
            self.is_refused(route(0, 1, [0], [(0, 1), (which, 0)]))

    def test_no_section_twice(self):
        for sections in ([0, 0], [1, 2, 1], [3, 4, 5, 5], list(range(15)) + [0]):
            self.is_refused(route(0, 1, sections))

    def test_no_points_twice(self):
        for pairs in ([(0, 0), (0, 0)], [(0, 0), (0, 1)], [(1, 1), (2, 1), (1, 1)]):
            self.is_refused(route(0, 1, [0], pairs))

    def test_where_points_must_lie(self):
        self.is_taken(route(0, 1, [0], [(0, 0)]))
        self.is_taken(route(0, 1, [0], [(0, 1)]))
        for where in (2, 3, 128, 255):
            self.is_refused(route(0, 1, [0], [(0, where)]))
            self.is_refused(route(0, 1, [0], [(1, 1), (0, where)]))
            self.is_refused(route(0, 1, [0], [(0, where), (1, 1)]))

    def test_a_section_and_points_may_have_one_number(self):
        self.is_taken(route(0, 1, [3, 4], [(3, 1), (4, 1)]))

    def test_points_may_lie_in_another_section_than_the_routes(self):
        self.is_taken(route(0, 1, [0, 1], [(7, 1)]))

    def test_a_row_is_read_as_sections_then_pairs(self):
        built = BUILT + [raw_route(1, 2, 3, 2, [5, 0, 4, 3, 1, 2, 0]), set_(0)]
        told = ask_rows_last(built, [tell_section(number) for number in range(6)])
        self.assertEqual([row[2] for row in told], [0, -1, -1, -1, 0, 0])
        told = ask_rows_last(built, [tell_points(number) for number in range(6)])
        self.assertEqual([row[1] for row in told], [0, 0, 0, 1, 0, 0])
        self.assertEqual([row[3] for row in told], [0, 0, 1, 1, 0, 0])

    def test_a_route_is_idle_at_first(self):
        built = BUILT + [route(0, 2, [0, 1, 2], [(0, 1)])] * 3
        self.assertEqual(ask_rows_last(built, [tell_route(number) for number in range(3)]), [[0, 0, 0, 0]] * 3)

    def test_a_new_route_is_idle_though_another_of_its_signal_isnt(self):
        built = BUILT + [route(0, 1, [0]), set_(0), track(0, 1), route(0, 1, [0])]
        self.assertEqual(ask_rows_last(built, [tell_route(0), tell_route(1)]), [[0, -1, 1, 0], [0, 0, 0, 0]])


if __name__ == "__main__":
    unittest.main()
