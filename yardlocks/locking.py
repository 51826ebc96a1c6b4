"""How routes are set and given back, and how the time for that passes."""

from yardlocks.things import IDLE
from yardlocks.things import NO_ROUTE
from yardlocks.things import NO_SECTION
from yardlocks.things import NOT_THERE
from yardlocks.things import SET
from yardlocks.things import there_is

WRONG_STATE = -3
SECTION_TAKEN = -4
POINTS_STUCK = -5

SECONDS_TO_GIVE_BACK = 120
MOST_SECONDS = 3600


def may_set(yard, number):
    if not there_is(yard.routes, number):
        return NOT_THERE
    route = yard.routes[number]
    if signal_is_in_use(yard, route.signal):
        return WRONG_STATE
    if any([is_taken(yard, section) for section in route.sections]):
        return SECTION_TAKEN
    if any([is_stuck(yard, which) for which in points_to_move(yard, route)]):
        return POINTS_STUCK
    return 0


def set_route(yard, number):
    answer = may_set(yard, number)
    if answer == 0:
        lock_route(yard, number)
    return answer


def cancel_route(yard, number):
    if not there_is(yard.routes, number):
        return NOT_THERE
    route = yard.routes[number]
    if route.state != SET or route.train_in:
        return WRONG_STATE
    if train_may_be_near(yard, route.signal):
        route.state = SECONDS_TO_GIVE_BACK
        return SECONDS_TO_GIVE_BACK
    release_route(yard, number)
    return 0


def pass_seconds(yard, seconds):
    if not 1 <= seconds <= MOST_SECONDS:
        return NOT_THERE
    for number in range(len(yard.routes)):
        count_down(yard, number, seconds)
    return 0


def count_down(yard, number, seconds):
    route = yard.routes[number]
    if not is_being_given_back(route):
        return
    if route.state > seconds:
        route.state -= seconds
    else:
        release_route(yard, number)


def lock_route(yard, number):
    route = yard.routes[number]
    for section in route.sections:
        yard.sections[section].locked_for = number
    for which, where in route.lies.items():
        yard.points[which].told = where
    # That no train has gone in needs no word here: an idle route has forgotten its last one.
    route.state = SET


def release_route(yard, number):
    route = yard.routes[number]
    for section in route.sections:
        unlock_section(yard, section, number)
    route.state = IDLE
    route.train_in = False
    route.counted = 0
    route.freed = 0


def unlock_section(yard, section, number):
    # A section that was given up earlier may be locked for another route by now.
    if yard.sections[section].locked_for == number:
        yard.sections[section].locked_for = NO_ROUTE


def is_under_way(route):
    return route.state != IDLE


def is_being_given_back(route):
    return is_under_way(route) and route.state != SET


def signal_is_in_use(yard, signal):
    return any([route.signal == signal and is_under_way(route) for route in yard.routes])


def is_occupied(yard, section):
    return yard.sections[section].occupied == 1


def is_taken(yard, section):
    return is_occupied(yard, section) or yard.sections[section].locked_for != NO_ROUTE


def points_to_move(yard, route):
    return [which for which, where in route.lies.items() if yard.points[which].told != where]


def is_stuck(yard, which):
    return is_taken(yard, yard.points[which].section) or are_held(yard, which)


def are_held(yard, which):
    return any([holds(yard, number, which) for number in range(len(yard.routes))])


def holds(yard, number, which):
    route = yard.routes[number]
    if not is_under_way(route) or which not in route.lies:
        return False
    section = yard.points[which].section
    return section not in route.sections or yard.sections[section].locked_for == number


def train_may_be_near(yard, signal):
    before = yard.signals[signal]
    return before != NO_SECTION and is_occupied(yard, before)
