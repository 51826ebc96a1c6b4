"""Point 6 of the document: track, and how trains release what's behind them."""

import unittest

from calls import HIGHEST, LOWEST, SECTION
from calls import aspect, ask_last, ask_rows_last, cancel, look, may, points, route, set_, signal
from calls import tell_route, tell_section, track, tracks

# 8 sections, points k in section k, and 4 signals without a section before them.
BUILT = [SECTION] * 8 + [points(k) for k in range(8)] + [signal(-1)] * 4
LOOK = look(8, 8, 4, 2)

IDLE = [0, 0, 0]


def rows_after(calls, asked):
    return ask_rows_last(BUILT + calls, asked)


def route_after(calls, number=0):
    """Its state, whether a train has gone in, and how many of its own sections are free again."""
    return rows_after(calls, [tell_route(number)])[0][1:]


def locks_after(calls):
    return [row[2] for row in rows_after(calls, [tell_section(number) for number in range(8)])]


class ReportTest(unittest.TestCase):
    def test_a_section_is_occupied_or_free(self):
        asked = [track(2, 1), tell_section(2), track(2, 0), tell_section(2)]
        self.assertEqual(rows_after([], asked), [[0], [0, 1, -1], [0], [0, 0, -1]])

    def test_only_that_section_is(self):
        told = rows_after([track(2, 1)], [tell_section(number) for number in range(8)])
        self.assertEqual([row[1] for row in told], [0, 0, 1, 0, 0, 0, 0, 0])

    def test_what_is_reported_twice_is_so_still(self):
        asked = [track(2, 0), track(2, 1), track(2, 1), tell_section(2), track(2, 0), track(2, 0), tell_section(2)]
        self.assertEqual(rows_after([], asked), [[0], [0], [0], [0, 1, -1], [0], [0], [0, 0, -1]])

    def test_anything_but_0_and_1_is_refused(self):
        for occupied in (2, 3, -1, -2, 255, LOWEST, HIGHEST):
            for was in (0, 1):
                asked = [track(2, was), track(2, occupied), tell_section(2)]
                self.assertEqual(rows_after([], asked), [[0], [-2], [0, was, -1]], occupied)

    def test_sections_that_there_arent(self):
        for section in (-1, -8, 8, 9, 63, 64, 255, LOWEST, LOWEST + 1, HIGHEST - 1, HIGHEST):
            for occupied in (0, 1, 2, LOWEST):
                self.assertEqual(ask_last(BUILT, [track(section, occupied)]), [-2], section)
        self.assertEqual(ask_last([], [track(0, 0), track(0, 1), track(-1, 1)]), [-2, -2, -2])
        self.assertEqual(ask_last([SECTION] * 64, [track(63, 1), track(64, 1)]), [0, -2])

    def test_a_refused_track_changes_nothing(self):
        calls = [route(0, 2, [0, 1]), route(1, 1, [2]), set_(0), set_(1), track(0, 1), track(1, 1)]
        before = rows_after(calls, LOOK)
        for call in (track(0, 2), track(0, -1), track(2, 2), track(8, 0), track(-7, 0), track(-1, 1), track(LOWEST, 1)):
            self.assertEqual(rows_after(calls + [call], LOOK), before, call)

    def test_an_idle_route_takes_no_notice(self):
        calls = [route(0, 2, [0, 1, 2])] + tracks((0, 1), (1, 1), (0, 0), (1, 0))
        for seen in range(1, len(calls) + 1):
            self.assertEqual(route_after(calls[:seen]), IDLE)

    def test_the_section_stays_locked_while_its_occupied(self):
        calls = [route(0, 1, [0]), set_(0), track(0, 1)]
        self.assertEqual(rows_after(calls, [tell_section(0)]), [[0, 1, 0]])


class GoneInTest(unittest.TestCase):
    def test_a_train_goes_in_with_the_first_section(self):
        for sections in ([0], [0, 1], [3, 1, 0], [7, 6, 5, 4]):
            calls = [route(0, len(sections), sections), set_(0)]
            self.assertEqual(route_after(calls), [-1, 0, 0])
            self.assertEqual(route_after(calls + [track(sections[0], 1)]), [-1, 1, 0])

    def test_and_with_no_other(self):
        calls = [route(0, 2, [3, 4, 5]), set_(0)]
        for section in (0, 1, 2, 4, 5, 6, 7):
            calls.append(track(section, 1))
            self.assertEqual(route_after(calls), [-1, 0, 0], section)

    def test_a_train_that_backs_out_has_gone_in_all_the_same(self):
        calls = [route(0, 2, [0, 1]), set_(0)] + tracks((0, 1), (0, 0))
        told = rows_after(calls, [tell_route(0), tell_section(0), tell_section(1), aspect(0), cancel(0), may(0)])
        self.assertEqual(told, [[0, -1, 1, 0], [0, 0, 0], [0, 0, 0], [0], [-3], [-3]])

    def test_a_train_that_backed_out_may_come_again(self):
        calls = [route(0, 2, [0, 1]), set_(0)] + tracks((0, 1), (0, 0), (0, 1), (0, 0), (0, 1), (1, 1))
        self.assertEqual(route_after(calls), [-1, 1, 0])
        self.assertEqual(route_after(calls + tracks((0, 0))), [-1, 1, 1])
        self.assertEqual(route_after(calls + tracks((0, 0), (1, 0))), IDLE)

    def test_a_route_that_is_set_after_a_train_has_left_has_none(self):
        calls = [route(0, 2, [0, 1])] + tracks((0, 1), (0, 0)) + [set_(0)]
        self.assertEqual(route_after(calls), [-1, 0, 0])
        self.assertEqual(route_after(calls + tracks((5, 1))), [-1, 0, 0])


class ThroughTest(unittest.TestCase):
    def follow(self, calls, steps):
        """Each step: a section, occupied, then the route's state, train in, sections free again, and the locks."""
        for section, occupied, told, locks in steps:
            calls = calls + [track(section, occupied)]
            self.assertEqual((route_after(calls), locks_after(calls)[:5]), (told, locks), (section, occupied))

    def test_section_by_section(self):
        self.follow([route(0, 3, [0, 1, 2]), set_(0)], [
            (0, 1, [-1, 1, 0], [0, 0, 0, -1, -1]),
            (1, 1, [-1, 1, 0], [0, 0, 0, -1, -1]),
            (0, 0, [-1, 1, 1], [-1, 0, 0, -1, -1]),
            (2, 1, [-1, 1, 1], [-1, 0, 0, -1, -1]),
            (1, 0, [-1, 1, 2], [-1, -1, 0, -1, -1]),
            (2, 0, IDLE, [-1] * 5),
        ])

    def test_sections_in_an_order_of_their_own(self):
        self.follow([route(0, 3, [4, 0, 2]), set_(0)], [
            (4, 1, [-1, 1, 0], [0, -1, 0, -1, 0]),
            (0, 1, [-1, 1, 0], [0, -1, 0, -1, 0]),
            (4, 0, [-1, 1, 1], [0, -1, 0, -1, -1]),
            (2, 1, [-1, 1, 1], [0, -1, 0, -1, -1]),
            (0, 0, [-1, 1, 2], [-1, -1, 0, -1, -1]),
            (2, 0, IDLE, [-1] * 5),
        ])

    def test_a_route_of_one_own_section(self):
        self.follow([route(0, 1, [0]), set_(0)], [
            (0, 1, [-1, 1, 0], [0, -1, -1, -1, -1]),
            (0, 0, IDLE, [-1] * 5),
        ])

    def test_sections_beyond_are_locked_until_the_end_and_then_given_up(self):
        self.follow([route(0, 2, [0, 1, 2, 3]), set_(0)], [
            (0, 1, [-1, 1, 0], [0, 0, 0, 0, -1]),
            (1, 1, [-1, 1, 0], [0, 0, 0, 0, -1]),
            (0, 0, [-1, 1, 1], [-1, 0, 0, 0, -1]),
            (1, 0, IDLE, [-1] * 5),
        ])

    def test_one_own_section_and_one_beyond(self):
        self.follow([route(0, 1, [0, 1]), set_(0)], [
            (0, 1, [-1, 1, 0], [0, 0, -1, -1, -1]),
            (0, 0, IDLE, [-1] * 5),
        ])

    def test_a_section_beyond_that_is_occupied_keeps_nothing(self):
        self.follow([route(0, 2, [0, 1, 2]), set_(0)], [
            (0, 1, [-1, 1, 0], [0, 0, 0, -1, -1]),
            (1, 1, [-1, 1, 0], [0, 0, 0, -1, -1]),
            (2, 1, [-1, 1, 0], [0, 0, 0, -1, -1]),
            (0, 0, [-1, 1, 1], [-1, 0, 0, -1, -1]),
            (1, 0, IDLE, [-1] * 5),
        ])

    def test_a_section_beyond_doesnt_count_for_the_one_before_it(self):
        # The last own section never was occupied, so the one before it isn't free again either.
        self.follow([route(0, 2, [0, 1, 2]), set_(0)], [
            (0, 1, [-1, 1, 0], [0, 0, 0, -1, -1]),
            (2, 1, [-1, 1, 0], [0, 0, 0, -1, -1]),
            (0, 0, [-1, 1, 0], [0, 0, 0, -1, -1]),
            (2, 0, [-1, 1, 0], [0, 0, 0, -1, -1]),
        ])

    def test_a_long_train_frees_several_at_once(self):
        # Sections 0 to 2 are occupied together; those ahead of the first occupied one wait for it.
        self.follow([route(0, 3, [0, 1, 2]), set_(0)] + tracks((0, 1), (1, 1), (2, 1)), [
            (1, 0, [-1, 1, 0], [0, 0, 0, -1, -1]),
            (2, 0, [-1, 1, 0], [0, 0, 0, -1, -1]),
            (0, 0, IDLE, [-1] * 5),
        ])
        self.follow([route(0, 4, [0, 1, 2, 3]), set_(0)] + tracks((0, 1), (1, 1), (2, 1), (3, 1)), [
            (1, 0, [-1, 1, 0], [0, 0, 0, 0, -1]),
            (0, 0, [-1, 1, 2], [-1, -1, 0, 0, -1]),
            (3, 0, [-1, 1, 2], [-1, -1, 0, 0, -1]),
            (2, 0, IDLE, [-1] * 5),
        ])

    def test_the_last_own_section_waits_for_those_before_it(self):
        self.follow([route(0, 2, [0, 1]), set_(0)] + tracks((0, 1), (1, 1)), [
            (1, 0, [-1, 1, 0], [0, 0, -1, -1, -1]),
            (0, 0, IDLE, [-1] * 5),
        ])

    def test_a_section_counts_though_its_free_before_the_one_before_it(self):
        # The train goes on to section 1 and comes back to section 0 whole.
        self.follow([route(0, 3, [0, 1, 2]), set_(0)] + tracks((0, 1), (1, 1), (1, 0)), [
            (0, 0, [-1, 1, 1], [-1, 0, 0, -1, -1]),
            (2, 1, [-1, 1, 2], [-1, -1, 0, -1, -1]),
            (2, 0, IDLE, [-1] * 5),
        ])

    def test_a_free_section_waits_until_the_next_one_counts(self):
        # Between the two sections the train is seen in neither.
        self.follow([route(0, 2, [0, 1]), set_(0)], [
            (0, 1, [-1, 1, 0], [0, 0, -1, -1, -1]),
            (0, 0, [-1, 1, 0], [0, 0, -1, -1, -1]),
            (1, 1, [-1, 1, 1], [-1, 0, -1, -1, -1]),
            (1, 0, IDLE, [-1] * 5),
        ])

    def test_what_is_free_again_stays_so_though_its_occupied_again(self):
        self.follow([route(0, 3, [0, 1, 2]), set_(0)] + tracks((0, 1), (1, 1), (0, 0)), [
            (0, 1, [-1, 1, 1], [-1, 0, 0, -1, -1]),
            (2, 1, [-1, 1, 1], [-1, 0, 0, -1, -1]),
            (1, 0, [-1, 1, 2], [-1, -1, 0, -1, -1]),
            (2, 0, IDLE, [-1] * 5),
        ])

    def test_what_is_reported_twice_frees_nothing_more(self):
        self.follow([route(0, 2, [0, 1]), set_(0)], [
            (0, 1, [-1, 1, 0], [0, 0, -1, -1, -1]),
            (0, 1, [-1, 1, 0], [0, 0, -1, -1, -1]),
            (1, 1, [-1, 1, 0], [0, 0, -1, -1, -1]),
            (0, 0, [-1, 1, 1], [-1, 0, -1, -1, -1]),
            (0, 0, [-1, 1, 1], [-1, 0, -1, -1, -1]),
            (7, 0, [-1, 1, 1], [-1, 0, -1, -1, -1]),
        ])

    def test_a_second_train_through_the_same_route(self):
        first = [set_(0)] + tracks((0, 1), (1, 1), (0, 0), (2, 1), (1, 0), (2, 0))
        self.follow([route(0, 3, [0, 1, 2])] + first + [set_(0)], [
            (0, 1, [-1, 1, 0], [0, 0, 0, -1, -1]),
            (0, 0, [-1, 1, 0], [0, 0, 0, -1, -1]),
            (1, 1, [-1, 1, 1], [-1, 0, 0, -1, -1]),
            (1, 0, [-1, 1, 1], [-1, 0, 0, -1, -1]),
            (2, 1, [-1, 1, 2], [-1, -1, 0, -1, -1]),
            (2, 0, IDLE, [-1] * 5),
        ])

    def test_the_longest_route(self):
        built = [SECTION] * 16 + [signal(-1), route(0, 16, range(16)), set_(0), track(0, 1)]
        for section in range(1, 16):
            built += tracks((section, 1), (section - 1, 0))
            self.assertEqual(ask_rows_last(built, [tell_route(0)]), [[0, -1, 1, section]])
        self.assertEqual(ask_rows_last(built, [track(15, 0), tell_route(0), set_(0)]), [[0], [0, 0, 0, 0], [0]])


class AheadTest(unittest.TestCase):
    def test_a_section_occupied_ahead_of_the_one_before_it_doesnt_count(self):
        # Section 2 is occupied and free again before section 1 counts.
        calls = [route(0, 3, [0, 1, 2]), set_(0)] + tracks((0, 1), (2, 1), (2, 0), (1, 1), (0, 0), (1, 0))
        self.assertEqual(route_after(calls), [-1, 1, 1])
        self.assertEqual(locks_after(calls)[:3], [-1, 0, 0])
        self.assertEqual(route_after(calls + tracks((2, 1))), [-1, 1, 2])
        self.assertEqual(route_after(calls + tracks((2, 1), (2, 0))), IDLE)

    def test_one_that_is_occupied_still_counts_once_the_one_before_it_does(self):
        calls = [route(0, 3, [0, 1, 2]), set_(0)] + tracks((0, 1), (2, 1))
        self.assertEqual(route_after(calls + tracks((0, 0))), [-1, 1, 0])
        self.assertEqual(route_after(calls + tracks((1, 1), (1, 0))), [-1, 1, 0])
        self.assertEqual(route_after(calls + tracks((1, 1), (1, 0), (0, 0))), [-1, 1, 2])
        self.assertEqual(route_after(calls + tracks((1, 1), (1, 0), (0, 0), (2, 0))), IDLE)

    def test_a_section_occupied_before_the_train_went_in(self):
        ahead = [route(0, 2, [0, 1]), set_(0), track(1, 1)]
        # It's occupied still when the first one is: it counts at once.
        self.assertEqual(route_after(ahead + tracks((0, 1), (0, 0))), [-1, 1, 1])
        # It's free again by then: it doesn't.
        self.assertEqual(route_after(ahead + tracks((1, 0), (0, 1), (0, 0))), [-1, 1, 0])

    def test_several_ahead_count_in_one_go(self):
        calls = [route(0, 4, [0, 1, 2, 3]), set_(0)] + tracks((3, 1), (2, 1), (1, 1), (0, 1), (1, 0), (2, 0), (0, 0))
        self.assertEqual(route_after(calls), [-1, 1, 3])
        self.assertEqual(route_after(calls + tracks((3, 0))), IDLE)


class TwoRoutesTest(unittest.TestCase):
    # A train goes through route 0, then through route 1 right behind it.
    ROUTES = [route(0, 2, [0, 1]), route(1, 2, [2, 3]), set_(0), set_(1)]

    def both(self, calls):
        return [row[1:] for row in rows_after(calls, [tell_route(0), tell_route(1)])]

    def test_a_train_moves_through_two_routes_under_way(self):
        steps = [
            ((0, 1), [-1, 1, 0], [-1, 0, 0]), ((1, 1), [-1, 1, 0], [-1, 0, 0]), ((0, 0), [-1, 1, 1], [-1, 0, 0]),
            ((2, 1), [-1, 1, 1], [-1, 1, 0]), ((1, 0), IDLE, [-1, 1, 0]), ((3, 1), IDLE, [-1, 1, 0]),
            ((2, 0), IDLE, [-1, 1, 1]), ((3, 0), IDLE, IDLE),
        ]
        calls = list(self.ROUTES)
        for pair, first, second in steps:
            calls.append(track(*pair))
            self.assertEqual(self.both(calls), [first, second], pair)
        self.assertEqual(locks_after(calls), [-1] * 8)

    def test_two_trains_at_once(self):
        calls = self.ROUTES + tracks((2, 1), (0, 1), (3, 1), (1, 1), (0, 0))
        self.assertEqual(self.both(calls), [[-1, 1, 1], [-1, 1, 0]])
        self.assertEqual(self.both(calls + tracks((2, 0), (3, 0))), [[-1, 1, 1], IDLE])
        self.assertEqual(self.both(calls + tracks((1, 0))), [IDLE, [-1, 1, 0]])
        self.assertEqual(locks_after(calls + tracks((1, 0)))[:4], [-1, -1, 1, 1])

    def test_a_section_given_up_is_locked_for_another_route_while_the_first_is_under_way(self):
        calls = [route(0, 3, [0, 1, 2]), route(1, 2, [4, 0]), set_(0)] + tracks((0, 1), (1, 1))
        self.assertEqual(rows_after(calls, [may(1)]), [[-4]])
        calls += tracks((0, 0)) + [set_(1)]
        self.assertEqual(rows_after(calls[:-1], [may(1), set_(1)]), [[0], [0]])
        self.assertEqual((self.both(calls), locks_after(calls)[:5]), ([[-1, 1, 1], [-1, 0, 0]], [1, 0, 0, -1, 1]))
        # The first train goes on, and what it gives up at the end isn't what the other has by now.
        calls += tracks((2, 1), (1, 0), (2, 0))
        self.assertEqual((self.both(calls), locks_after(calls)[:5]), ([IDLE, [-1, 0, 0]], [1, -1, -1, -1, 1]))
        self.assertEqual(rows_after(calls, [may(0), aspect(1)]), [[-4], [1]])
        calls += tracks((4, 1), (0, 1), (4, 0))
        self.assertEqual((self.both(calls), locks_after(calls)[:5]), ([IDLE, [-1, 1, 1]], [1, -1, -1, -1, -1]))
        calls += tracks((0, 0))
        self.assertEqual((self.both(calls), locks_after(calls)), ([IDLE, IDLE], [-1] * 8))

    def test_a_train_in_a_section_given_up_goes_into_the_other_route_alone(self):
        calls = [route(0, 2, [0, 1]), route(1, 1, [0]), set_(0)] + tracks((0, 1), (1, 1), (0, 0)) + [set_(1)]
        calls += tracks((0, 1))
        self.assertEqual(self.both(calls), [[-1, 1, 1], [-1, 1, 0]])
        calls += tracks((0, 0))
        self.assertEqual((self.both(calls), locks_after(calls)[:2]), ([[-1, 1, 1], IDLE], [-1, 0]))

    def test_a_later_number_may_be_through_first(self):
        calls = [route(1, 2, [4, 0]), route(0, 2, [0, 1]), set_(1)] + tracks((0, 1), (1, 1), (0, 0)) + [set_(0)]
        self.assertEqual((self.both(calls), locks_after(calls)[:5]), ([[-1, 0, 0], [-1, 1, 1]], [0, 1, -1, -1, 0]))
        calls += tracks((1, 0))
        self.assertEqual((self.both(calls), locks_after(calls)[:5]), ([[-1, 0, 0], IDLE], [0, -1, -1, -1, 0]))

    def test_a_section_thats_own_to_one_and_beyond_to_another(self):
        calls = [route(0, 1, [0, 1]), route(1, 1, [1]), set_(0)] + tracks((0, 1))
        self.assertEqual(rows_after(calls, [may(1)]), [[-4]])
        self.assertEqual(rows_after(calls + tracks((0, 0)), [may(1)]), [[0]])

    def test_the_signal_is_in_use_until_the_train_is_through(self):
        calls = [route(0, 2, [0, 1]), route(0, 1, [5]), set_(0)] + tracks((0, 1), (1, 1), (0, 0))
        self.assertEqual(rows_after(calls, [may(0), may(1)]), [[-3], [-3]])
        self.assertEqual(rows_after(calls + tracks((1, 0)), [may(0), may(1)]), [[0], [0]])


if __name__ == "__main__":
    unittest.main()
