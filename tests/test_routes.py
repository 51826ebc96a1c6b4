"""Point 4 of the document, and the words ahead of it: may and set, and which points are held."""

import unittest

from calls import HIGHEST, LOWEST, SECTION
from calls import ask_last, ask_rows_last, cancel, found, look, may, points, route, set_, signal
from calls import aspect, tell_route, tell_section, track, tracks

# 8 sections, points k in section k, 3 signals without a section before them, and signal 3 with section 6 before it.
BUILT = [SECTION] * 8 + [points(k) for k in range(8)] + [signal(-1)] * 3 + [signal(6)]


def ask_routes(routes, calls):
    return ask_last(BUILT + routes, calls)


LOOK = look(8, 8, 4, 4)


def rows_of_routes(routes, calls, asked):
    return ask_rows_last(BUILT + routes + calls, asked)


def locked_for(routes, calls):
    return [row[2] for row in rows_of_routes(routes, calls, LOOK[:8])]


def told_and_found(routes, calls):
    return [row[1:3] for row in rows_of_routes(routes, calls, LOOK[8:16])]


def held(routes, calls):
    return [which for which, row in enumerate(rows_of_routes(routes, calls, LOOK[8:16])) if row[3] == 1]


class NoSuchRouteTest(unittest.TestCase):
    def test_routes_that_there_arent(self):
        for number in (-1, -2, 2, 3, 255, 256, LOWEST, LOWEST + 1, HIGHEST - 1, HIGHEST):
            asked = [may(number), set_(number), cancel(number)]
            told = ask_routes([route(0, 1, [0]), route(1, 1, [1])], asked)
            self.assertEqual(told, [-2, -2, -2], number)

    def test_an_empty_yard_has_none(self):
        self.assertEqual(ask_last([], [may(0), set_(0), cancel(0)]), [-2, -2, -2])


class MayAndSetTest(unittest.TestCase):
    def test_what_is_idle_and_free_may_be_set(self):
        routes = [route(0, 1, [0, 1], [(0, 1), (5, 1)])]
        self.assertEqual(ask_routes(routes, [may(0), set_(0)]), [0, 0])

    def test_may_changes_nothing(self):
        routes = [route(0, 1, [0], [(0, 1)]), route(1, 1, [0], [(0, 0)])]
        self.assertEqual(ask_routes(routes, [may(0), may(0), may(1), cancel(0)]), [0, 0, 0, -3])
        self.assertEqual(rows_of_routes(routes, [may(0), may(1)], LOOK[:-2]), rows_of_routes(routes, [], LOOK[:-2]))

    def test_a_route_that_is_set_keeps_its_signal(self):
        routes = [route(2, 1, [0]), route(2, 1, [1]), route(1, 1, [2])]
        asked = [set_(0), may(0), set_(0), may(1), set_(1), may(2), set_(2)]
        self.assertEqual(ask_routes(routes, asked), [0, -3, -3, -3, -3, 0, 0])

    def test_a_later_route_keeps_its_signal_too(self):
        routes = [route(2, 1, [0]), route(2, 1, [1])]
        self.assertEqual(ask_routes(routes, [set_(1), may(0), set_(0)]), [0, -3, -3])

    def test_a_locked_section_keeps_routes_out(self):
        # The one section that's shared is the train's own or beyond, first or last.
        for shared in ([0, 4, 5], [4, 1, 5], [4, 5, 2], [5, 4, 2]):
            routes = [route(0, 1, [0, 1, 2]), route(1, 1, shared), route(2, 1, [4, 5, 6])]
            asked = [set_(0), may(1), set_(1), may(2)]
            self.assertEqual(ask_routes(routes, asked), [0, -4, -4, 0], shared)

    def test_all_sections_are_locked_and_no_others(self):
        routes = [route(0, 1, [1, 3, 6])] + [route(1, 1, [section]) for section in range(8)]
        told = ask_routes(routes, [set_(0)] + [may(1 + section) for section in range(8)])
        self.assertEqual(told, [0, 0, -4, 0, -4, 0, 0, -4, 0])

    def test_minus_3_comes_before_minus_4_and_minus_5(self):
        routes = [route(0, 1, [0], [(0, 1)]), route(0, 1, [0]), route(0, 1, [1], [(0, 0)])]
        self.assertEqual(ask_routes(routes, [set_(0), may(0), may(1), may(2)]), [0, -3, -3, -3])

    def test_minus_4_comes_before_minus_5(self):
        routes = [route(0, 1, [0], [(0, 1)]), route(1, 1, [1, 0], [(0, 0)])]
        self.assertEqual(ask_routes(routes, [set_(0), may(1), set_(1)]), [0, -4, -4])

    def test_points_in_a_locked_section_cant_be_moved(self):
        # No route names points 0, so it's their section's lock alone.
        routes = [route(0, 1, [0]), route(1, 1, [1], [(0, 1)]), route(1, 1, [1], [(0, 0)])]
        self.assertEqual(ask_routes(routes, [set_(0), may(1), set_(1), may(2), set_(2)]), [0, -5, -5, 0, 0])

    def test_points_that_are_held_outside_a_routes_sections_cant_be_moved(self):
        # Section 7 is neither locked nor occupied: points 7 are held by route 0 alone.
        routes = [
            route(0, 1, [0], [(7, 1)]), route(1, 1, [1], [(7, 0)]),
            route(1, 1, [1], [(7, 1)]), route(1, 1, [7]),
        ]
        asked = [set_(0), may(1), set_(1), may(2), may(3)]
        self.assertEqual(ask_routes(routes, asked), [0, -5, -5, 0, 0])

    def test_held_points_are_no_less_held_when_asked_with_their_section(self):
        routes = [route(0, 1, [0], [(7, 1)]), route(1, 1, [7], [(7, 0)])]
        self.assertEqual(ask_routes(routes, [set_(0), may(1)]), [0, -5])

    def test_one_of_many_points_is_enough(self):
        for stuck in (2, 3, 4):
            pairs = [(which, 1) for which in (2, 3, 4)]
            routes = [route(0, 1, [stuck]), route(1, 1, [1], pairs)]
            self.assertEqual(ask_routes(routes, [set_(0), may(1)]), [0, -5], stuck)

    def test_two_routes_may_hold_the_same_points_the_same_way(self):
        routes = [route(0, 1, [0], [(7, 1)]), route(1, 1, [1], [(7, 1)]), route(2, 1, [2], [(7, 0)])]
        asked = [set_(0), set_(1), may(2), cancel(0), may(2), cancel(1), may(2)]
        self.assertEqual(ask_routes(routes, asked), [0, 0, -5, 0, -5, 0, 0])

    def test_set_tells_points_where_to_lie(self):
        routes = [route(0, 1, [0, 1], [(0, 1), (1, 0), (6, 1)]), route(0, 1, [0, 1], [(0, 0), (1, 1)])]
        calls = [found(0, 0), found(6, 1), set_(0)]
        told = [[1, 0], [0, 2], [0, 2], [0, 2], [0, 2], [0, 2], [1, 1], [0, 2]]
        self.assertEqual(told_and_found(routes, calls), told)
        self.assertEqual(locked_for(routes, calls), [0, 0] + [-1] * 6)
        calls += [cancel(0), set_(1)]
        told = [[0, 0], [1, 2], [0, 2], [0, 2], [0, 2], [0, 2], [1, 1], [0, 2]]
        self.assertEqual(told_and_found(routes, calls), told)
        self.assertEqual(locked_for(routes, calls), [1, 1] + [-1] * 6)

    def test_a_route_that_is_set_anew_has_no_train_in(self):
        routes = [route(0, 2, [0, 1])]
        through = [set_(0)] + tracks((0, 1), (1, 1), (0, 0), (1, 0))
        asked = [set_(0), tell_route(0), tell_section(0), tell_section(1), aspect(0), cancel(0)]
        told = rows_of_routes(routes, through, asked)
        self.assertEqual(told, [[0], [0, -1, 0, 0], [0, 0, 0], [0, 0, 0], [1], [0]])
        # What the last train did doesn't count for the next one.
        told = rows_of_routes(routes, through + [set_(0)] + tracks((0, 1), (0, 0)), [tell_route(0), tell_section(0)])
        self.assertEqual(told, [[0, -1, 1, 0], [0, 0, 0]])

    def test_points_stay_as_they_were_told_after_a_cancel(self):
        routes = [
            route(0, 1, [0], [(0, 1)]), route(0, 1, [0]),
            route(1, 1, [1], [(0, 1)]), route(1, 1, [1], [(0, 0)]),
        ]
        asked = [set_(0), cancel(0), set_(1), may(2), may(3)]
        self.assertEqual(ask_routes(routes, asked), [0, 0, 0, 0, -5])

    def test_an_occupied_section_keeps_routes_out(self):
        routes = [route(0, 1, [2, 3, 4]), route(1, 1, [5]), route(1, 1, [0]), route(1, 1, [0])]
        for section in (2, 3, 4):
            asked = [track(section, 1), may(0), set_(0), may(1), track(section, 0), may(0), set_(0)]
            self.assertEqual(ask_routes(routes, asked), [0, -4, -4, 0, 0, 0, 0], section)
            occupied = rows_of_routes(routes, [track(section, 1)], LOOK)
            self.assertEqual(rows_of_routes(routes, [track(section, 1), set_(0)], LOOK), occupied, section)

    def test_minus_3_comes_before_minus_4_of_an_occupied_section(self):
        routes = [route(0, 1, [0]), route(0, 1, [1]), route(1, 1, [1])]
        self.assertEqual(ask_routes(routes, [set_(0), track(1, 1), may(1), may(2)]), [0, 0, -3, -4])

    def test_minus_4_of_an_occupied_section_comes_before_minus_5(self):
        routes = [route(0, 1, [0], [(5, 1)])]
        asked = [track(0, 1), track(5, 1), may(0), track(0, 0), may(0), track(5, 0), may(0)]
        self.assertEqual(ask_routes(routes, asked), [0, 0, -4, 0, -5, 0, 0])

    def test_points_in_an_occupied_section_cant_be_moved(self):
        routes = [route(0, 1, [0], [(1, 1), (5, 1)]), route(0, 1, [0], [(1, 1), (5, 0)])]
        asked = [track(5, 1), may(0), set_(0), may(1), track(5, 0), may(0), track(5, 1), set_(1)]
        self.assertEqual(ask_routes(routes, asked), [0, -5, -5, 0, 0, 0, 0, 0])

    def test_where_points_are_found_doesnt_matter_only_where_they_are_told(self):
        routes = [route(0, 1, [0], [(5, 1)]), route(0, 1, [0], [(5, 0)])]
        for where in (0, 1, 2):
            self.assertEqual(ask_routes(routes, [found(5, where), track(5, 1), may(0), may(1)]), [0, 0, -5, 0])

    def test_a_refused_set_changes_nothing(self):
        routes = [
            route(0, 1, [0], [(0, 1)]), route(1, 1, [1, 0], [(1, 1), (6, 1)]),
            route(1, 1, [1], [(1, 1), (0, 0)]), route(0, 1, [1], [(1, 1)]),
        ]
        wrong = [set_(0), set_(1), set_(2), set_(3), set_(4), set_(-1), cancel(1), cancel(4)]
        self.assertEqual(ask_routes(routes, [set_(0)] + wrong), [0, -3, -4, -5, -3, -2, -2, -3, -2])
        before = rows_of_routes(routes, [set_(0)], LOOK)
        self.assertEqual(rows_of_routes(routes, [set_(0)] + wrong, LOOK), before)


class HeldTest(unittest.TestCase):
    def test_points_that_no_route_under_way_names_arent_held(self):
        routes = [route(0, 1, [0, 1], [(0, 1), (7, 1)])]
        self.assertEqual(held(routes, []), [])
        self.assertEqual(held(routes, [set_(0)]), [0, 7])
        self.assertEqual(held(routes, [set_(0), cancel(0)]), [])

    def test_points_are_held_however_they_must_lie(self):
        self.assertEqual(held([route(0, 1, [0], [(0, 0), (3, 0), (4, 1)])], [set_(0)]), [0, 3, 4])

    def test_points_in_a_routes_sections_that_it_doesnt_name_arent_held(self):
        self.assertEqual(held([route(0, 1, [0, 1, 2], [(1, 1)])], [set_(0)]), [1])

    def test_points_are_held_only_as_long_as_their_section_is_locked_for_the_route(self):
        # Points 7 lie outside the route's sections, points 2 beyond the train's own.
        routes = [route(0, 2, [0, 1, 2], [(0, 1), (1, 1), (2, 1), (7, 1)]), route(1, 1, [3], [(0, 0)])]
        calls = [set_(0)] + tracks((0, 1), (1, 1))
        self.assertEqual(held(routes, calls), [0, 1, 2, 7])
        self.assertEqual(ask_routes(routes, calls + [may(1)])[-1], -5)
        calls += tracks((0, 0))
        self.assertEqual(held(routes, calls), [1, 2, 7])
        self.assertEqual(ask_routes(routes, calls + [may(1)])[-1], 0)
        calls += tracks((1, 0))
        self.assertEqual(held(routes, calls), [])

    def test_points_whose_section_is_locked_for_another_route_by_then_arent_held_by_the_first(self):
        routes = [route(0, 2, [0, 1], [(0, 1), (7, 1)]), route(1, 1, [0])]
        calls = [set_(0)] + tracks((0, 1), (1, 1), (0, 0)) + [set_(1)]
        self.assertEqual(locked_for(routes, calls)[:2], [1, 0])
        self.assertEqual(held(routes, calls), [7])

    def test_points_may_be_told_otherwise_once_they_are_no_longer_held(self):
        routes = [route(0, 2, [0, 1], [(0, 1), (7, 1)]), route(1, 1, [0], [(0, 0)]), route(2, 1, [5], [(7, 0)])]
        calls = [set_(0)] + tracks((0, 1), (1, 1), (0, 0))
        self.assertEqual(ask_routes(routes, calls + [set_(1), may(2)])[-2:], [0, -5])
        self.assertEqual(told_and_found(routes, calls + [set_(1)])[0], [0, 2])
        self.assertEqual(held(routes, calls + [set_(1)]), [0, 7])

    def test_points_outside_a_routes_sections_are_held_until_its_idle(self):
        routes = [route(0, 2, [0, 1, 2], [(7, 1)]), route(1, 1, [5], [(7, 0)])]
        calls = [set_(0)]
        for pair in ((0, 1), (1, 1), (0, 0)):
            calls.append(track(*pair))
            self.assertEqual((held(routes, calls), ask_routes(routes, calls + [may(1)])[-1]), ([7], -5), pair)
        calls.append(track(1, 0))
        self.assertEqual((held(routes, calls), ask_routes(routes, calls + [may(1)])[-1]), ([], 0))

    def test_an_occupied_or_locked_section_alone_doesnt_hold_points(self):
        self.assertEqual(held([route(0, 1, [3])], [set_(0), track(5, 1)]), [])

    def test_points_that_two_routes_hold_are_held_until_both_are_idle(self):
        routes = [route(0, 1, [0], [(7, 1)]), route(1, 1, [1], [(7, 1)])]
        self.assertEqual(held(routes, [set_(0), set_(1), cancel(0)]), [7])
        self.assertEqual(held(routes, [set_(0), set_(1), cancel(0), cancel(1)]), [])

    def test_a_route_that_is_being_given_back_holds_its_points(self):
        routes = [route(3, 1, [0], [(0, 1), (7, 1)])]
        self.assertEqual(held(routes, [set_(0), track(6, 1), cancel(0)]), [0, 7])


if __name__ == "__main__":
    unittest.main()
