"""What a yard tells of itself; nothing here changes it."""

from yardlocks.locking import are_held
from yardlocks.locking import is_occupied
from yardlocks.things import NOT_THERE
from yardlocks.things import SET
from yardlocks.things import there_is


def aspect_of(yard, signal):
    if not there_is(yard.signals, signal):
        return NOT_THERE
    green = [route.signal == signal and is_clear(yard, number) for number, route in enumerate(yard.routes)]
    return one_if(any(green))


def is_clear(yard, number):
    route = yard.routes[number]
    if route.state != SET or route.train_in:
        return False
    if not all([is_kept_free(yard, section, number) for section in route.sections]):
        return False
    return all([lie_at(yard, which, where) for which, where in route.lies.items()])


def is_kept_free(yard, section, number):
    return yard.sections[section].locked_for == number and not is_occupied(yard, section)


def lie_at(yard, which, where):
    there = yard.points[which]
    return there.told == where and there.found == where


def tell_section(yard, number):
    if not there_is(yard.sections, number):
        return [NOT_THERE]
    section = yard.sections[number]
    return [0, section.occupied, section.locked_for]


def tell_points(yard, number):
    if not there_is(yard.points, number):
        return [NOT_THERE]
    there = yard.points[number]
    return [0, there.told, there.found, one_if(are_held(yard, number))]


def tell_route(yard, number):
    if not there_is(yard.routes, number):
        return [NOT_THERE]
    route = yard.routes[number]
    return [0, route.state, one_if(route.train_in), route.freed]


def one_if(fact):
    return 1 if fact else 0
