"""Point 7 of the document: cancel and tick."""

import unittest

from calls import HIGHEST, LOWEST, SECTION
from calls import aspect, ask_last, ask_rows_last, cancel, found, look, may, points, route, set_, signal
from calls import tell_points, tell_route, tell_section, tick, track, tracks

# 8 sections, points k in section k; before signal 0 there's no section, before signal k section k.
BUILT = [SECTION] * 8 + [points(k) for k in range(8)] + [signal(-1), signal(1), signal(2), signal(3)]
LOOK = look(8, 8, 4, 4)

# Route 0 is one of signal 3; routes 1 to 3 are kept out by what it has: its signal, its sections, its points.
GIVEN_BACK = [
    route(3, 1, [4, 5], [(4, 1), (7, 1)]), route(3, 1, [6]), route(0, 1, [5]), route(0, 1, [6], [(7, 0)]),
]
GIVING_BACK = GIVEN_BACK + [set_(0), track(3, 1), cancel(0)]


def ask_routes(routes, calls):
    return ask_last(BUILT + routes, calls)


def rows_of_routes(calls, asked):
    return ask_rows_last(BUILT + calls, asked)


def seconds_left(calls):
    return rows_of_routes(calls, [tell_route(0)])[0][1]


class CancelAtOnceTest(unittest.TestCase):
    def test_an_idle_route_cant_be_cancelled(self):
        self.assertEqual(ask_routes([route(0, 1, [0])], [cancel(0)]), [-3])
        self.assertEqual(ask_routes([route(1, 1, [0])], [track(1, 1), cancel(0)]), [0, -3])

    def test_a_route_is_cancelled_once(self):
        asked = [set_(0), cancel(0), cancel(0), set_(0), cancel(0)]
        self.assertEqual(ask_routes([route(0, 1, [0])], asked), [0, 0, -3, 0, 0])

    def test_a_cancel_gives_up_signal_sections_and_points(self):
        routes = [
            route(0, 1, [0, 1, 2], [(2, 1), (7, 1)]), route(0, 1, [3]),
            route(1, 1, [2, 1, 0], [(2, 0), (7, 0)]),
        ]
        asked = [set_(0), may(1), may(2), cancel(0), may(1), may(2), set_(2)]
        self.assertEqual(ask_routes(routes, asked), [0, -3, -4, 0, 0, 0, 0])

    def test_a_cancelled_route_is_idle(self):
        asked = [tell_route(0), tell_section(0), tell_section(1), tell_points(0), aspect(0)]
        calls = [route(0, 1, [0, 1], [(0, 1)]), found(0, 1), set_(0)]
        self.assertEqual(rows_of_routes(calls, asked), [[0, -1, 0, 0], [0, 0, 0], [0, 0, 0], [0, 1, 1, 1], [1]])
        told = rows_of_routes(calls + [cancel(0)], asked)
        self.assertEqual(told, [[0, 0, 0, 0], [0, 0, -1], [0, 0, -1], [0, 1, 1, 0], [0]])

    def test_another_route_of_the_signal_isnt_cancelled(self):
        routes = [route(0, 1, [0]), route(0, 1, [1])]
        self.assertEqual(ask_routes(routes, [set_(0), cancel(1), may(0), cancel(0)]), [0, -3, -3, 0])

    def test_other_routes_keep_their_locks(self):
        routes = [route(0, 1, [0]), route(1, 1, [4], [(7, 1)]), route(2, 1, [4]), route(2, 1, [5], [(7, 0)])]
        asked = [set_(0), set_(1), cancel(0), may(1), may(2), may(3), cancel(1)]
        self.assertEqual(ask_routes(routes, asked), [0, 0, 0, -3, -4, -5, 0])

    def test_a_free_section_before_the_signal_even_a_locked_one_gives_0(self):
        asked = [set_(0), set_(1), cancel(0), may(0)]
        self.assertEqual(ask_routes([route(1, 1, [2]), route(0, 1, [1])], asked), [0, 0, 0, 0])

    def test_a_section_before_the_signal_that_is_free_again_gives_0(self):
        asked = [track(3, 1), set_(0), track(3, 0), cancel(0)]
        self.assertEqual(ask_routes(GIVEN_BACK, asked), [0, 0, 0, 0])

    def test_another_occupied_section_doesnt_matter(self):
        occupied = [track(section, 1) for section in (0, 1, 2, 5, 6, 7)]
        self.assertEqual(ask_routes(GIVEN_BACK, [set_(0)] + occupied + [cancel(0)]), [0] * 8)

    def test_without_a_section_before_the_signal_no_occupied_one_matters(self):
        # The last section too: -1 isn't counted from the end.
        occupied = [track(section, 1) for section in (0, 1, 2, 3, 5, 6, 7)]
        self.assertEqual(ask_routes([route(0, 1, [4])], [set_(0)] + occupied + [cancel(0)]), [0] * 9)


class CancelWithATimeTest(unittest.TestCase):
    def test_an_occupied_section_before_the_signal_gives_120(self):
        self.assertEqual(ask_routes(GIVEN_BACK, [set_(0), track(3, 1), cancel(0)]), [0, 0, 120])
        self.assertEqual(ask_routes(GIVEN_BACK, [track(3, 1), set_(0), cancel(0)]), [0, 0, 120])

    def test_the_route_keeps_what_it_has_but_the_green(self):
        found_right = [found(4, 1), found(7, 1)]
        asked = [tell_route(0), tell_section(4), tell_section(5), tell_points(4), tell_points(7), aspect(3)]
        told = rows_of_routes(GIVEN_BACK + found_right + [set_(0), track(3, 1)], asked)
        self.assertEqual(told, [[0, -1, 0, 0], [0, 0, 0], [0, 0, 0], [0, 1, 1, 1], [0, 1, 1, 1], [1]])
        told = rows_of_routes(GIVING_BACK + found_right, asked)
        self.assertEqual(told, [[0, 120, 0, 0], [0, 0, 0], [0, 0, 0], [0, 1, 1, 1], [0, 1, 1, 1], [0]])

    def test_it_keeps_others_out_and_cant_be_cancelled_again(self):
        asked = [cancel(0), set_(0), set_(1), set_(2), set_(3), may(0), may(1), may(2), may(3)]
        self.assertEqual(ask_routes(GIVING_BACK, asked), [-3, -3, -3, -4, -5, -3, -3, -4, -5])
        self.assertEqual(rows_of_routes(GIVING_BACK + asked, LOOK), rows_of_routes(GIVING_BACK, LOOK))

    def test_a_second_cancel_doesnt_begin_the_time_anew(self):
        self.assertEqual(seconds_left(GIVING_BACK + [tick(20), cancel(0)]), 100)

    def test_that_the_section_before_is_free_again_doesnt_end_it(self):
        told = ask_rows_last(BUILT + GIVING_BACK + [track(3, 0)], [cancel(0), tell_route(0)])
        self.assertEqual(told, [[-3], [0, 120, 0, 0]])

    def test_a_section_before_that_is_the_routes_own(self):
        # It's before the signal and second of the route: a train in it hasn't gone in, but may be near.
        asked = [set_(0), track(1, 1), cancel(0), tell_route(0)]
        self.assertEqual(rows_of_routes([route(1, 2, [2, 1])], asked), [[0], [0], [120], [0, 120, 0, 0]])


class CancelAfterATrainTest(unittest.TestCase):
    def test_once_a_train_has_gone_in_it_cant_be_cancelled(self):
        for before in (0, 1):
            calls = GIVEN_BACK + [set_(0), track(3, before), track(4, 1)]
            self.assertEqual(ask_last(BUILT + calls, [cancel(0), cancel(0)]), [-3, -3])
            self.assertEqual(rows_of_routes(calls + [cancel(0)], LOOK), rows_of_routes(calls, LOOK))

    def test_nor_when_it_has_backed_out(self):
        calls = [route(3, 2, [4, 5]), set_(0), track(4, 1), track(4, 0)]
        for before in (0, 1):
            self.assertEqual(ask_last(BUILT + calls + [track(3, before)], [cancel(0)]), [-3])

    def test_nor_when_it_is_halfway_through(self):
        calls = [route(3, 2, [4, 5]), set_(0)] + tracks((4, 1), (5, 1), (4, 0))
        self.assertEqual(ask_last(BUILT + calls, [cancel(0)]), [-3])

    def test_nor_when_its_through_for_its_idle_then(self):
        calls = [route(3, 1, [4]), set_(0)] + tracks((4, 1), (4, 0))
        self.assertEqual(ask_last(BUILT + calls, [cancel(0), set_(0), cancel(0)]), [-3, 0, 0])

    def test_a_train_in_a_later_section_has_not_gone_in(self):
        calls = [route(3, 2, [4, 5, 6]), set_(0)] + tracks((5, 1), (6, 1))
        self.assertEqual(ask_last(BUILT + calls, [cancel(0)]), [0])


class TickTest(unittest.TestCase):
    def test_what_is_taken_and_what_isnt(self):
        for seconds in (1, 2, 119, 120, 121, 3599, 3600):
            self.assertEqual(ask_last([], [tick(seconds)]), [0], seconds)
        for seconds in (0, -1, -120, -3600, 3601, 3602, LOWEST, LOWEST + 1, HIGHEST - 1, HIGHEST):
            self.assertEqual(ask_last([], [tick(seconds)]), [-2], seconds)

    def test_a_refused_tick_changes_nothing(self):
        before = rows_of_routes(GIVING_BACK, LOOK)
        for seconds in (0, -1, 3601, LOWEST, HIGHEST):
            self.assertEqual(rows_of_routes(GIVING_BACK + [tick(seconds)], LOOK), before, seconds)

    def test_so_many_seconds_are_left(self):
        for seconds, left in ((1, 119), (2, 118), (60, 60), (118, 2), (119, 1), (120, 0), (121, 0), (3600, 0)):
            self.assertEqual(seconds_left(GIVING_BACK + [tick(seconds)]), left, seconds)

    def test_seconds_add_up(self):
        for several in ((60, 60), (1, 119), (119, 1), (1,) * 120, (40, 40, 40), (100, 21), (119, 3600)):
            ticks = [tick(seconds) for seconds in several]
            self.assertEqual(seconds_left(GIVING_BACK + ticks[:-1]), 120 - sum(several[:-1]), several)
            self.assertEqual(rows_of_routes(GIVING_BACK + ticks, [tell_route(0)]), [[0, 0, 0, 0]], several)

    def test_until_the_time_is_over_all_is_kept_then_given_up(self):
        asked = [tell_section(4), tell_section(5), tell_points(4), tell_points(7), may(0), may(1), may(2), may(3)]
        kept = [[0, 0, 0], [0, 0, 0], [0, 1, 2, 1], [0, 1, 2, 1], [-3], [-3], [-4], [-5]]
        given_up = [[0, 0, -1], [0, 0, -1], [0, 1, 2, 0], [0, 1, 2, 0], [0], [0], [0], [0]]
        self.assertEqual(rows_of_routes(GIVING_BACK + [tick(119)], asked), kept)
        for ticks in ([tick(120)], [tick(121)], [tick(119), tick(1)], [tick(3600)]):
            self.assertEqual(rows_of_routes(GIVING_BACK + ticks, asked), given_up)

    def test_time_that_passed_before_the_cancel_doesnt_count(self):
        calls = GIVEN_BACK + [tick(3600), set_(0), tick(3600), track(3, 1), tick(100), cancel(0)]
        self.assertEqual(seconds_left(calls), 120)
        self.assertEqual(seconds_left(calls + [tick(119)]), 1)

    def test_a_set_route_stays_set(self):
        for train in ([], [track(4, 1)], [track(4, 1), track(4, 0)]):
            calls = [route(3, 2, [4, 5], [(4, 1)]), track(3, 1), set_(0)] + train
            before = ask_rows_last(BUILT + calls, look(8, 8, 4, 1))
            for ticks in ([tick(1)], [tick(120)], [tick(3600)] * 3):
                self.assertEqual(ask_rows_last(BUILT + calls + ticks, look(8, 8, 4, 1)), before)

    def test_an_idle_route_stays_idle(self):
        self.assertEqual(rows_of_routes(GIVEN_BACK + [tick(1)], LOOK), rows_of_routes(GIVEN_BACK, LOOK))

    def test_two_routes_have_a_time_each(self):
        calls = [route(3, 1, [4]), route(2, 1, [5]), track(3, 1), track(2, 1), set_(0), set_(1)]
        calls += [cancel(1), tick(50), cancel(0)]
        asked = [tell_route(0), tell_route(1), tell_section(4), tell_section(5)]
        for seconds, left in ((69, [51, 1, 0, 1]), (70, [50, 0, 0, -1]), (119, [1, 0, 0, -1]), (120, [0, 0, -1, -1])):
            told = rows_of_routes(calls + [tick(seconds)], asked)
            self.assertEqual([told[0][1], told[1][1], told[2][2], told[3][2]], left, seconds)

    def test_a_time_that_is_over_touches_no_other_routes_locks(self):
        calls = GIVEN_BACK + [route(0, 1, [6, 2], [(7, 1)]), set_(0), set_(4), track(3, 1), cancel(0), tick(120)]
        asked = [tell_section(6), tell_section(2), tell_points(7), tell_route(4), tell_route(0)]
        told = rows_of_routes(calls, asked)
        self.assertEqual(told, [[0, 0, 4], [0, 0, 4], [0, 1, 2, 1], [0, -1, 0, 0], [0, 0, 0, 0]])

    def test_after_the_time_a_route_may_be_set_and_given_back_anew(self):
        asked = [tick(120), set_(0), cancel(0), tick(119), cancel(0), tick(1), set_(0)]
        self.assertEqual(ask_routes(GIVING_BACK, asked), [0, 0, 120, 0, -3, 0, 0])

    def test_a_route_set_after_its_time_isnt_given_back_by_the_next_tick(self):
        told = rows_of_routes(GIVING_BACK + [tick(120), set_(0), tick(120)], [tell_route(0)])
        self.assertEqual(told, [[0, -1, 0, 0]])


class TrainGoesInMeanwhileTest(unittest.TestCase):
    def test_the_route_is_set_again_and_its_time_forgotten(self):
        for ticks in ([], [tick(1)], [tick(119)]):
            calls = GIVING_BACK + ticks + [track(4, 1)]
            self.assertEqual(rows_of_routes(calls, [tell_route(0), aspect(3)]), [[0, -1, 1, 0], [0]])
            told = rows_of_routes(calls + [tick(3600)], [tell_route(0), tell_section(4), tell_section(5)])
            self.assertEqual(told, [[0, -1, 1, 0], [0, 1, 0], [0, 0, 0]])

    def test_it_cant_be_cancelled_then(self):
        self.assertEqual(ask_routes(GIVING_BACK, [track(4, 1), cancel(0), track(3, 0), cancel(0)]), [0, -3, 0, -3])

    def test_it_is_idle_once_the_train_is_through(self):
        asked = [track(4, 1), tick(120), track(4, 0), tell_route(0), tell_section(4), tell_section(5), tell_points(7)]
        told = [[0], [0], [0], [0, 0, 0, 0], [0, 0, -1], [0, 0, -1], [0, 1, 2, 0]]
        self.assertEqual(rows_of_routes(GIVING_BACK, asked), told)

    def test_another_section_than_the_first_doesnt_set_it_again(self):
        calls = GIVING_BACK + [tick(20)] + tracks((5, 1), (6, 1), (3, 0), (3, 1))
        self.assertEqual(seconds_left(calls), 100)
        self.assertEqual(rows_of_routes(calls + [tick(100)], [tell_route(0)]), [[0, 0, 0, 0]])

    def test_a_train_after_the_time_is_over_doesnt_set_it(self):
        calls = GIVING_BACK + [tick(120), track(4, 1)]
        self.assertEqual(rows_of_routes(calls, [tell_route(0), tell_section(4)]), [[0, 0, 0, 0], [0, 1, -1]])

    def test_a_section_occupied_ahead_counts_once_the_train_is_in(self):
        calls = [route(3, 2, [4, 5]), set_(0), track(3, 1), cancel(0)] + tracks((5, 1), (4, 1), (4, 0))
        self.assertEqual(rows_of_routes(calls, [tell_route(0), tell_section(4)]), [[0, -1, 1, 1], [0, 0, -1]])

    def test_only_the_route_whose_first_section_it_is_is_set_again(self):
        calls = [route(3, 1, [4]), route(2, 1, [5]), track(3, 1), track(2, 1), set_(0), set_(1), cancel(0), cancel(1)]
        told = rows_of_routes(calls + [tick(7), track(5, 1)], [tell_route(0), tell_route(1)])
        self.assertEqual(told, [[0, 113, 0, 0], [0, -1, 1, 0]])


if __name__ == "__main__":
    unittest.main()
