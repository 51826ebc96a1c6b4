"""What the yard reports: which sections are occupied, and where points are found to lie."""

from yardlocks.locking import is_occupied
from yardlocks.locking import is_under_way
from yardlocks.locking import release_route
from yardlocks.locking import unlock_section
from yardlocks.things import NOT_THERE
from yardlocks.things import NOWHERE
from yardlocks.things import SET
from yardlocks.things import there_is


def report_section(yard, section, occupied):
    if not there_is(yard.sections, section) or occupied not in (0, 1):
        return NOT_THERE
    yard.sections[section].occupied = occupied
    for number in range(len(yard.routes)):
        follow_train(yard, number)
    return 0


def report_points(yard, which, where):
    if not there_is(yard.points, which) or where not in (0, 1, NOWHERE):
        return NOT_THERE
    yard.points[which].found = where
    return 0


def follow_train(yard, number):
    route = yard.routes[number]
    if not is_under_way(route):
        return
    if is_occupied(yard, route.sections[0]):
        route.train_in = True
        # The route may be being given back: a train that's in it needs it until it's through.
        route.state = SET
    if route.train_in:
        count_sections(yard, route)
        free_sections(yard, number)


def count_sections(yard, route):
    while route.counted < route.own and is_occupied(yard, route.sections[route.counted]):
        route.counted += 1


def free_sections(yard, number):
    route = yard.routes[number]
    while route.freed < route.own and train_has_left(yard, route, route.freed):
        unlock_section(yard, route.sections[route.freed], number)
        route.freed += 1
    if route.freed == route.own:
        release_route(yard, number)


def train_has_left(yard, route, place):
    # A train that isn't in the next section either may have backed out, or stand between the two.
    counts = place < route.counted
    has_gone_on = place + 1 < route.counted or place == route.own - 1
    return counts and has_gone_on and not is_occupied(yard, route.sections[place])
