"""Points 4 and 7 of the document, and the words ahead of them: may, set and cancel."""

import unittest

from calls import HIGHEST, LOWEST, SECTION
from calls import ask_last, cancel, may, points, route, set_, signal
from yardlocks.building import add_points, add_route, add_section, add_signal
from yardlocks.locking import are_held, cancel_route, may_set, set_route
from yardlocks.things import Yard

# 8 sections, points k in section k, and 4 signals without a section before them.
BUILT = [SECTION] * 8 + [points(k) for k in range(8)] + [signal(-1)] * 4


def ask_routes(routes, calls):
    return ask_last(BUILT + routes, calls)


def built_yard():
    """The same, but signal k has section k before it."""
    yard = Yard()
    for section in range(8):
        add_section(yard)
        add_points(yard, section)
    for before in range(4):
        add_signal(yard, before)
    return yard


def with_route(yard, of_signal, sections, pairs=()):
    given = list(sections) + [number for pair in pairs for number in pair]
    return add_route(yard, of_signal, 1, len(sections), len(pairs), given)


def picture(yard):
    """All that the yard knows, to be held against a later one."""
    return repr([[dict(vars(thing)) for thing in things] for things in (yard.sections, yard.points, yard.routes)])


class NoSuchRouteTest(unittest.TestCase):
    def test_routes_that_there_arent(self):
        for number in (-1, -2, 2, 3, 255, 256, LOWEST, LOWEST + 1, HIGHEST - 1, HIGHEST):
            asked = [may(number), set_(number), cancel(number)]
            told = ask_routes([route(0, 1, [0]), route(1, 1, [1])], asked)
            self.assertEqual(told, [-2, -2, -2], number)

    def test_an_empty_yard_has_none(self):
        self.assertEqual(ask_last([], [may(0), set_(0), cancel(0)]), [-2, -2, -2])


class MayAndSetTest(unittest.TestCase):
    def test_what_is_idle_and_free_may_be_set(self):
        routes = [route(0, 1, [0, 1], [(0, 1), (5, 1)])]
        self.assertEqual(ask_routes(routes, [may(0), set_(0)]), [0, 0])

    def test_may_changes_nothing(self):
        routes = [route(0, 1, [0], [(0, 1)]), route(1, 1, [0], [(0, 0)])]
        self.assertEqual(ask_routes(routes, [may(0), may(0), may(1), cancel(0)]), [0, 0, 0, -3])
        yard = built_yard()
        with_route(yard, 0, [0, 1], [(0, 1)])
        before = picture(yard)
        self.assertEqual(may_set(yard, 0), 0)
        self.assertEqual(picture(yard), before)

    def test_a_route_that_is_set_keeps_its_signal(self):
        routes = [route(2, 1, [0]), route(2, 1, [1]), route(1, 1, [2])]
        asked = [set_(0), may(0), set_(0), may(1), set_(1), may(2), set_(2)]
        self.assertEqual(ask_routes(routes, asked), [0, -3, -3, -3, -3, 0, 0])

    def test_a_later_route_keeps_its_signal_too(self):
        routes = [route(2, 1, [0]), route(2, 1, [1])]
        self.assertEqual(ask_routes(routes, [set_(1), may(0), set_(0)]), [0, -3, -3])

    def test_a_locked_section_keeps_routes_out(self):
        # The one section that's shared is the train's own or beyond, first or last.
        for shared in ([0, 4, 5], [4, 1, 5], [4, 5, 2], [5, 4, 2]):
            routes = [route(0, 1, [0, 1, 2]), route(1, 1, shared), route(2, 1, [4, 5, 6])]
            asked = [set_(0), may(1), set_(1), may(2)]
            self.assertEqual(ask_routes(routes, asked), [0, -4, -4, 0], shared)

    def test_all_sections_are_locked_and_no_others(self):
        routes = [route(0, 1, [1, 3, 6])] + [route(1, 1, [section]) for section in range(8)]
        told = ask_routes(routes, [set_(0)] + [may(1 + section) for section in range(8)])
        self.assertEqual(told, [0, 0, -4, 0, -4, 0, 0, -4, 0])

    def test_minus_3_comes_before_minus_4_and_minus_5(self):
        routes = [route(0, 1, [0], [(0, 1)]), route(0, 1, [0]), route(0, 1, [1], [(0, 0)])]
        self.assertEqual(ask_routes(routes, [set_(0), may(0), may(1), may(2)]), [0, -3, -3, -3])

    def test_minus_4_comes_before_minus_5(self):
        routes = [route(0, 1, [0], [(0, 1)]), route(1, 1, [1, 0], [(0, 0)])]
        self.assertEqual(ask_routes(routes, [set_(0), may(1), set_(1)]), [0, -4, -4])

    def test_points_in_a_locked_section_cant_be_moved(self):
        # No route names points 0, so it's their section's lock alone.
        routes = [route(0, 1, [0]), route(1, 1, [1], [(0, 1)]), route(1, 1, [1], [(0, 0)])]
        self.assertEqual(ask_routes(routes, [set_(0), may(1), set_(1), may(2), set_(2)]), [0, -5, -5, 0, 0])

    def test_points_that_are_held_outside_a_routes_sections_cant_be_moved(self):
        # Section 7 is neither locked nor occupied: points 7 are held by route 0 alone.
        routes = [
            route(0, 1, [0], [(7, 1)]), route(1, 1, [1], [(7, 0)]),
            route(1, 1, [1], [(7, 1)]), route(1, 1, [7]),
        ]
        asked = [set_(0), may(1), set_(1), may(2), may(3)]
        self.assertEqual(ask_routes(routes, asked), [0, -5, -5, 0, 0])

    def test_held_points_are_no_less_held_when_asked_with_their_section(self):
        routes = [route(0, 1, [0], [(7, 1)]), route(1, 1, [7], [(7, 0)])]
        self.assertEqual(ask_routes(routes, [set_(0), may(1)]), [0, -5])

    def test_one_of_many_points_is_enough(self):
        for stuck in (2, 3, 4):
            pairs = [(which, 1) for which in (2, 3, 4)]
            routes = [route(0, 1, [stuck]), route(1, 1, [1], pairs)]
            self.assertEqual(ask_routes(routes, [set_(0), may(1)]), [0, -5], stuck)

    def test_two_routes_may_hold_the_same_points_the_same_way(self):
        routes = [route(0, 1, [0], [(7, 1)]), route(1, 1, [1], [(7, 1)]), route(2, 1, [2], [(7, 0)])]
        asked = [set_(0), set_(1), may(2), cancel(0), may(2), cancel(1), may(2)]
        self.assertEqual(ask_routes(routes, asked), [0, 0, -5, 0, -5, 0, 0])

    def test_set_tells_points_where_to_lie(self):
        yard = built_yard()
        with_route(yard, 0, [0, 1], [(0, 1), (1, 0), (6, 1)])
        with_route(yard, 0, [0, 1], [(0, 0), (1, 1)])
        self.assertEqual(set_route(yard, 0), 0)
        self.assertEqual([there.told for there in yard.points], [1, 0, 0, 0, 0, 0, 1, 0])
        self.assertEqual([there.found for there in yard.points], [2] * 8)
        self.assertEqual([there.locked_for for there in yard.sections], [0, 0] + [-1] * 6)
        self.assertEqual(cancel_route(yard, 0), 0)
        self.assertEqual(set_route(yard, 1), 0)
        self.assertEqual([there.told for there in yard.points], [0, 1, 0, 0, 0, 0, 1, 0])
        self.assertEqual([there.locked_for for there in yard.sections], [1, 1] + [-1] * 6)

    def test_a_route_that_is_set_anew_has_no_train_in(self):
        yard = built_yard()
        with_route(yard, 0, [0])
        yard.routes[0].train_in = True
        self.assertEqual(set_route(yard, 0), 0)
        self.assertEqual((yard.routes[0].state, yard.routes[0].train_in), (-1, False))

    def test_points_stay_as_they_were_told_after_a_cancel(self):
        routes = [
            route(0, 1, [0], [(0, 1)]), route(0, 1, [0]),
            route(1, 1, [1], [(0, 1)]), route(1, 1, [1], [(0, 0)]),
        ]
        asked = [set_(0), cancel(0), set_(1), may(2), may(3)]
        self.assertEqual(ask_routes(routes, asked), [0, 0, 0, 0, -5])

    def test_an_occupied_section_keeps_routes_out(self):
        for section in (2, 3, 4):
            yard = built_yard()
            with_route(yard, 0, [2, 3, 4])
            with_route(yard, 1, [5])
            yard.sections[section].occupied = 1
            before = picture(yard)
            self.assertEqual([may_set(yard, 0), set_route(yard, 0)], [-4, -4])
            self.assertEqual(picture(yard), before)
            self.assertEqual(may_set(yard, 1), 0)

    def test_points_in_an_occupied_section_cant_be_moved(self):
        yard = built_yard()
        with_route(yard, 0, [0], [(1, 1), (5, 1)])
        with_route(yard, 0, [0], [(1, 1), (5, 0)])
        yard.sections[5].occupied = 1
        self.assertEqual([may_set(yard, 0), may_set(yard, 1)], [-5, 0])

    def test_a_refused_set_changes_nothing(self):
        routes = [
            route(0, 1, [0], [(0, 1)]), route(1, 1, [1, 0], [(1, 1), (6, 1)]),
            route(1, 1, [1], [(1, 1), (0, 0)]), route(0, 1, [1], [(1, 1)]),
        ]
        wrong = [set_(0), set_(1), set_(2), set_(3), set_(4), set_(-1), cancel(1), cancel(4)]
        self.assertEqual(ask_routes(routes, [set_(0)] + wrong), [0, -3, -4, -5, -3, -2, -2, -3, -2])
        yard = built_yard()
        for call in routes:
            add_route(yard, call[1], call[2], call[3], call[4], call[6:])
        self.assertEqual(set_route(yard, 0), 0)
        before = picture(yard)
        self.assertEqual([set_route(yard, number) for number in (0, 1, 2, 3, 4, -1)], [-3, -4, -5, -3, -2, -2])
        self.assertEqual([cancel_route(yard, number) for number in (1, 2, 4, -1)], [-3, -3, -2, -2])
        self.assertEqual(picture(yard), before)


class HeldTest(unittest.TestCase):
    def test_points_that_no_route_under_way_names_arent_held(self):
        yard = built_yard()
        with_route(yard, 0, [0, 1], [(0, 1), (7, 1)])
        self.assertFalse(any(are_held(yard, which) for which in range(8)))
        set_route(yard, 0)
        self.assertEqual([which for which in range(8) if are_held(yard, which)], [0, 7])
        cancel_route(yard, 0)
        self.assertFalse(any(are_held(yard, which) for which in range(8)))

    def test_points_are_held_only_as_long_as_their_section_is_locked_for_the_route(self):
        yard = built_yard()
        with_route(yard, 0, [0, 1], [(0, 1), (7, 1)])
        with_route(yard, 1, [2], [(0, 0)])
        set_route(yard, 0)
        self.assertEqual(may_set(yard, 1), -5)
        yard.sections[0].locked_for = -1
        self.assertEqual([are_held(yard, 0), are_held(yard, 7), may_set(yard, 1)], [False, True, 0])
        yard.sections[0].locked_for = 1
        self.assertFalse(are_held(yard, 0))

    def test_a_route_that_is_being_given_back_holds_its_points(self):
        yard = built_yard()
        with_route(yard, 3, [0], [(0, 1), (7, 1)])
        set_route(yard, 0)
        yard.sections[3].occupied = 1
        cancel_route(yard, 0)
        self.assertEqual([which for which in range(8) if are_held(yard, which)], [0, 7])


class CancelTest(unittest.TestCase):
    def test_an_idle_route_cant_be_cancelled(self):
        self.assertEqual(ask_routes([route(0, 1, [0])], [cancel(0)]), [-3])

    def test_a_route_is_cancelled_once(self):
        asked = [set_(0), cancel(0), cancel(0), set_(0), cancel(0)]
        self.assertEqual(ask_routes([route(0, 1, [0])], asked), [0, 0, -3, 0, 0])

    def test_a_cancel_gives_up_signal_sections_and_points(self):
        routes = [
            route(0, 1, [0, 1, 2], [(2, 1), (7, 1)]), route(0, 1, [3]),
            route(1, 1, [2, 1, 0], [(2, 0), (7, 0)]),
        ]
        asked = [set_(0), may(1), may(2), cancel(0), may(1), may(2), set_(2)]
        self.assertEqual(ask_routes(routes, asked), [0, -3, -4, 0, 0, 0, 0])

    def test_another_route_of_the_signal_isnt_cancelled(self):
        routes = [route(0, 1, [0]), route(0, 1, [1])]
        self.assertEqual(ask_routes(routes, [set_(0), cancel(1), may(0), cancel(0)]), [0, -3, -3, 0])

    def test_other_routes_keep_their_locks(self):
        routes = [route(0, 1, [0]), route(1, 1, [1], [(7, 1)]), route(2, 1, [1]), route(2, 1, [2], [(7, 0)])]
        asked = [set_(0), set_(1), cancel(0), may(1), may(2), may(3), cancel(1)]
        self.assertEqual(ask_routes(routes, asked), [0, 0, 0, -3, -4, -5, 0])

    def test_a_section_that_is_locked_for_another_route_stays_so(self):
        yard = built_yard()
        with_route(yard, 0, [4, 5])
        set_route(yard, 0)
        yard.sections[4].locked_for = 3
        self.assertEqual(cancel_route(yard, 0), 0)
        self.assertEqual([yard.sections[4].locked_for, yard.sections[5].locked_for], [3, -1])

    def test_a_free_section_before_the_signal_even_a_locked_one_gives_0(self):
        built = [SECTION] * 2 + [signal(0), signal(-1)] + [route(0, 1, [1]), route(1, 1, [0])]
        self.assertEqual(ask_last(built, [set_(0), set_(1), cancel(0), may(0)]), [0, 0, 0, 0])

    def test_an_occupied_section_before_the_signal_gives_120(self):
        yard = built_yard()
        with_route(yard, 3, [4, 5], [(4, 1)])
        with_route(yard, 3, [6])
        with_route(yard, 0, [5])
        with_route(yard, 0, [7], [(4, 0)])
        set_route(yard, 0)
        yard.sections[3].occupied = 1
        self.assertEqual(cancel_route(yard, 0), 120)
        self.assertEqual((yard.routes[0].state, yard.routes[0].train_in), (120, False))
        self.assertEqual([yard.sections[4].locked_for, yard.sections[5].locked_for], [0, 0])
        before = picture(yard)
        self.assertEqual(cancel_route(yard, 0), -3)
        self.assertEqual([set_route(yard, number) for number in range(4)], [-3, -3, -4, -5])
        self.assertEqual(picture(yard), before)

    def test_another_occupied_section_doesnt_matter(self):
        yard = built_yard()
        with_route(yard, 3, [4])
        set_route(yard, 0)
        for section in (0, 1, 2, 4, 5, 6, 7):
            yard.sections[section].occupied = 1
        self.assertEqual(cancel_route(yard, 0), 0)

    def test_without_a_section_before_the_signal_the_last_section_doesnt_matter(self):
        yard = built_yard()
        of_signal = add_signal(yard, -1)
        with_route(yard, of_signal, [4])
        set_route(yard, 0)
        for section in yard.sections:
            section.occupied = 1
        self.assertEqual(cancel_route(yard, 0), 0)

    def test_once_a_train_has_gone_in_it_cant_be_cancelled(self):
        yard = built_yard()
        with_route(yard, 3, [4])
        set_route(yard, 0)
        yard.routes[0].train_in = True
        for occupied in (0, 1):
            yard.sections[3].occupied = occupied
            before = picture(yard)
            self.assertEqual(cancel_route(yard, 0), -3)
            self.assertEqual(picture(yard), before)


if __name__ == "__main__":
    unittest.main()
