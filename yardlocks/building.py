"""How sections, points, signals and routes come into a yard."""

from yardlocks.things import NO_SECTION
from yardlocks.things import NOT_THERE
from yardlocks.things import Points
from yardlocks.things import Route
from yardlocks.things import Section
from yardlocks.things import there_is

FULL = -8

MOST_SECTIONS = 64
MOST_POINTS = 32
MOST_SIGNALS = 64
MOST_ROUTES = 256

MOST_ROUTE_SECTIONS = 16
MOST_ROUTE_POINTS = 16


def add_section(yard):
    return admit(yard.sections, MOST_SECTIONS, Section())


def add_points(yard, section):
    if not there_is(yard.sections, section):
        return NOT_THERE
    return admit(yard.points, MOST_POINTS, Points(section))


def add_signal(yard, before):
    if before != NO_SECTION and not there_is(yard.sections, before):
        return NOT_THERE
    return admit(yard.signals, MOST_SIGNALS, before)


def add_route(yard, signal, own, n, m, given):
    # Outside these ranges nothing is given, so they're looked at before what is.
    if not there_is(yard.signals, signal) or not sizes_fit(own, n, m):
        return NOT_THERE
    sections = given[:n]
    which = [given[n + 2 * k] for k in range(m)]
    where = [given[n + 2 * k + 1] for k in range(m)]
    if not each_is_there_once(yard.sections, sections):
        return NOT_THERE
    if not each_is_there_once(yard.points, which) or not all_are_sides(where):
        return NOT_THERE
    return admit(yard.routes, MOST_ROUTES, Route(signal, own, sections, dict(zip(which, where))))


def sizes_fit(own, n, m):
    return 1 <= own <= n <= MOST_ROUTE_SECTIONS and 0 <= m <= MOST_ROUTE_POINTS


def each_is_there_once(things, numbers):
    if len(set(numbers)) != len(numbers):
        return False
    return all([there_is(things, number) for number in numbers])


def all_are_sides(where):
    return all([side in (0, 1) for side in where])


def admit(things, most, thing):
    if len(things) >= most:
        return FULL
    things.append(thing)
    return len(things) - 1
