"""Points 5, 8 and 9 of the document: aspect, found, and what the three tell calls tell."""

import unittest

from calls import HIGHEST, LOWEST, SECTION
from calls import aspect, ask_last, ask_rows_last, cancel, found, look, points, route, set_, signal
from calls import tell_points, tell_route, tell_section, tick, track, tracks

# 8 sections, points k in section k; before signals 0 and 1 there's no section, before signal 2 section 7.
BUILT = [SECTION] * 8 + [points(k) for k in range(8)] + [signal(-1), signal(-1), signal(7)]
LOOK = look(8, 8, 3, 2)

NOT_EIGHT = (-1, -2, -8, 8, 9, 63, 64, 255, 256, LOWEST, LOWEST + 1, HIGHEST - 1, HIGHEST)


def rows_after(calls, asked):
    return ask_rows_last(BUILT + calls, asked)


class AspectTest(unittest.TestCase):
    # Green: two own sections, one beyond, points in the first, in the last and outside.
    ROUTE = [route(0, 2, [0, 1, 2], [(0, 1), (2, 0), (5, 1)])]
    FOUND = [found(0, 1), found(2, 0), found(5, 1)]
    GREEN = ROUTE + FOUND + [set_(0)]

    def aspect_after(self, calls, number=0):
        return rows_after(calls, [aspect(number)])[0]

    def test_green(self):
        self.assertEqual(self.aspect_after(self.GREEN), [1])
        self.assertEqual(self.aspect_after(self.ROUTE + [set_(0)] + self.FOUND), [1])

    def test_a_route_without_points(self):
        self.assertEqual(self.aspect_after([route(0, 1, [3])]), [0])
        self.assertEqual(self.aspect_after([route(0, 1, [3]), set_(0)]), [1])

    def test_a_signal_without_routes(self):
        self.assertEqual(self.aspect_after([]), [0])

    def test_a_signal_whose_routes_are_idle(self):
        self.assertEqual(self.aspect_after(self.ROUTE + self.FOUND), [0])
        self.assertEqual(self.aspect_after(self.GREEN + [cancel(0)]), [0])

    def test_another_signal_isnt_green(self):
        told = rows_after(self.GREEN + [route(1, 1, [6])], [aspect(0), aspect(1), aspect(2)])
        self.assertEqual(told, [[1], [0], [0]])

    def test_whichever_of_its_routes_is_set(self):
        routes = [route(0, 1, [number]) for number in range(4)]
        for number in range(4):
            self.assertEqual(self.aspect_after(routes + [set_(number)]), [1], number)

    def test_one_route_that_is_set_is_enough_whatever_the_others_lack(self):
        calls = [route(0, 1, [0], [(0, 1)]), route(0, 1, [1]), route(0, 1, [2], [(2, 1)]), set_(1), track(2, 1)]
        self.assertEqual(self.aspect_after(calls), [1])

    def test_two_signals_green_at_once(self):
        calls = [route(0, 1, [0]), route(1, 1, [1]), set_(0), set_(1)]
        self.assertEqual(rows_after(calls, [aspect(0), aspect(1)]), [[1], [1]])
        self.assertEqual(rows_after(calls + [track(0, 1)], [aspect(0), aspect(1)]), [[0], [1]])

    def test_no_green_for_a_route_that_is_being_given_back(self):
        calls = [route(2, 1, [0]), set_(0), track(7, 1)]
        self.assertEqual(self.aspect_after(calls, 2), [1])
        self.assertEqual(self.aspect_after(calls + [cancel(0)], 2), [0])
        self.assertEqual(self.aspect_after(calls + [cancel(0), tick(119)], 2), [0])
        self.assertEqual(self.aspect_after(calls + [cancel(0), tick(120)], 2), [0])
        self.assertEqual(self.aspect_after(calls + [cancel(0), tick(120), set_(0)], 2), [1])

    def test_no_green_once_a_train_has_gone_in_nor_after_it(self):
        calls = list(self.GREEN)
        for pair in ((0, 1), (0, 0), (0, 1), (1, 1), (0, 0), (1, 0)):
            calls.append(track(*pair))
            self.assertEqual(self.aspect_after(calls), [0], pair)
        self.assertEqual(self.aspect_after(calls + [set_(0)]), [1])

    def test_no_green_while_one_of_its_sections_is_occupied(self):
        # The own second and the one beyond: no train has gone in, so it's green again after it.
        for section in (1, 2):
            self.assertEqual(self.aspect_after(self.GREEN + [track(section, 1)]), [0], section)
            self.assertEqual(self.aspect_after(self.GREEN + tracks((section, 1), (section, 0))), [1], section)

    def test_other_sections_dont_matter_even_those_of_its_points(self):
        occupied = [track(section, 1) for section in (3, 4, 5, 6, 7)]
        self.assertEqual(self.aspect_after(self.GREEN + occupied), [1])

    def test_no_green_unless_all_points_are_found_as_they_must_lie(self):
        for which, right in ((0, 1), (2, 0), (5, 1)):
            for where in (0, 1, 2):
                told = self.aspect_after(self.GREEN + [found(which, where)])
                self.assertEqual(told, [1 if where == right else 0], (which, where))
            self.assertEqual(self.aspect_after(self.GREEN + [found(which, 2), found(which, right)]), [1])
        for left_out in range(3):
            calls = self.ROUTE + self.FOUND[:left_out] + self.FOUND[left_out + 1:] + [set_(0)]
            self.assertEqual(self.aspect_after(calls), [0], left_out)

    def test_other_points_dont_matter(self):
        self.assertEqual(self.aspect_after(self.GREEN + [found(1, 1), found(3, 1), found(7, 0)]), [1])

    def test_signals_that_there_arent(self):
        for number in (-1, -2, -3, 3, 4, 63, 64, 255, LOWEST, LOWEST + 1, HIGHEST - 1, HIGHEST):
            self.assertEqual(self.aspect_after(self.GREEN, number), [-2], number)
        self.assertEqual(ask_last([], [aspect(0), aspect(-1)]), [-2, -2])
        self.assertEqual(ask_last([signal(-1)] * 64, [aspect(63), aspect(64)]), [0, -2])


class FoundTest(unittest.TestCase):
    def test_points_are_found_at_0_or_1_or_nowhere(self):
        for where in (0, 1, 2):
            for before in (0, 1, 2):
                asked = [found(3, before), found(3, where), tell_points(3)]
                self.assertEqual(rows_after([], asked), [[0], [0], [0, 0, where, 0]])

    def test_only_those_points_are(self):
        told = rows_after([found(3, 1), found(4, 0)], [tell_points(number) for number in range(8)])
        self.assertEqual([row[2] for row in told], [2, 2, 2, 1, 0, 2, 2, 2])

    def test_what_they_are_told_and_whether_they_are_held_stays(self):
        calls = [route(0, 1, [0], [(0, 1), (5, 0)]), set_(0)]
        for where in (0, 1, 2):
            told = rows_after(calls + [found(0, where), found(5, where)], [tell_points(0), tell_points(5)])
            self.assertEqual(told, [[0, 1, where, 1], [0, 0, where, 1]])

    def test_anything_else_is_refused_and_changes_nothing(self):
        for where in (3, 4, -1, -2, 255, LOWEST, HIGHEST):
            for before in (0, 1, 2):
                asked = [found(3, before), found(3, where), tell_points(3)]
                self.assertEqual(rows_after([], asked), [[0], [-2], [0, 0, before, 0]], where)

    def test_points_that_there_arent(self):
        before = rows_after([], LOOK)
        for which in NOT_EIGHT + (31, 32):
            for where in (0, 1, 2, 3):
                self.assertEqual(rows_after([], [found(which, where)] + LOOK), [[-2]] + before, which)
        self.assertEqual(ask_last([], [found(0, 0), found(0, 2), found(-1, 1)]), [-2, -2, -2])
        self.assertEqual(ask_last([SECTION] + [points(0)] * 32, [found(31, 1), found(32, 1)]), [0, -2])


class TellTest(unittest.TestCase):
    def test_a_section(self):
        calls = [route(0, 1, [0, 1]), route(1, 1, [2, 3]), set_(1), track(2, 1), track(5, 1)]
        told = rows_after(calls, [tell_section(number) for number in range(8)])
        free, locked, both, occupied = [0, 0, -1], [0, 0, 1], [0, 1, 1], [0, 1, -1]
        self.assertEqual(told, [free, free, both, locked, free, occupied, free, free])

    def test_points(self):
        calls = [route(0, 1, [0], [(0, 1), (1, 0), (2, 1)]), route(1, 1, [3], [(3, 1)])]
        calls += [set_(1), cancel(1), set_(0), found(0, 0), found(1, 1), found(4, 1)]
        told = rows_after(calls, [tell_points(number) for number in range(6)])
        self.assertEqual(told, [[0, 1, 0, 1], [0, 0, 1, 1], [0, 1, 2, 1], [0, 1, 2, 0], [0, 0, 1, 0], [0, 0, 2, 0]])

    def test_a_route(self):
        calls = [route(2, 3, [0, 1, 2, 3])]
        steps = [
            ([], [0, 0, 0, 0]), ([set_(0)], [0, -1, 0, 0]), ([track(7, 1), cancel(0)], [0, 120, 0, 0]),
            ([tick(1)], [0, 119, 0, 0]), ([tick(118)], [0, 1, 0, 0]), ([track(0, 1)], [0, -1, 1, 0]),
            (tracks((1, 1), (0, 0)), [0, -1, 1, 1]), (tracks((2, 1), (1, 0)), [0, -1, 1, 2]),
            (tracks((2, 0)), [0, 0, 0, 0]),
        ]
        for step, told in steps:
            calls += step
            self.assertEqual(rows_after(calls, [tell_route(0)]), [told])

    def test_each_route_for_itself(self):
        calls = [route(0, 1, [0]), route(1, 2, [1, 2]), route(2, 1, [3]), set_(1), set_(2), track(7, 1), cancel(2)]
        calls += tracks((1, 1), (2, 1), (1, 0))
        told = rows_after(calls, [tell_route(0), tell_route(1), tell_route(2)])
        self.assertEqual(told, [[0, 0, 0, 0], [0, -1, 1, 1], [0, 120, 0, 0]])

    def test_the_highest_numbers_that_can_be(self):
        built = [SECTION] * 64 + [points(63)] * 32 + [signal(63)] * 64 + [route(63, 1, [63], [(31, 1)])] * 256
        built += [set_(255)]
        told = ask_rows_last(built, [tell_section(63), tell_points(31), tell_route(255), aspect(63)])
        self.assertEqual(told, [[0, 0, 255], [0, 1, 2, 1], [0, -1, 0, 0], [0]])
        told = ask_rows_last(built, [tell_section(64), tell_points(32), tell_route(256), aspect(64)])
        self.assertEqual(told, [[-2]] * 4)

    def test_what_there_isnt_is_minus_2_alone(self):
        built = [route(0, 1, [0])] * 8
        for number in NOT_EIGHT:
            told = rows_after(built, [tell_section(number), tell_points(number), tell_route(number)])
            self.assertEqual(told, [[-2]] * 3, number)
        self.assertEqual(ask_rows_last([], [tell_section(0), tell_points(0), tell_route(0)]), [[-2]] * 3)

    def test_telling_changes_nothing(self):
        calls = [route(0, 2, [0, 1], [(0, 1)]), route(1, 1, [4], [(5, 1)]), set_(0), set_(1), found(0, 1), track(0, 1)]
        told = rows_after(calls, LOOK * 3)
        self.assertEqual(told, told[:len(LOOK)] * 3)


if __name__ == "__main__":
    unittest.main()
