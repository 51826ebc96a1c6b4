"""Long lists of mixed calls on a small yard, the same for the same seed: most can be carried out, some are wrong."""

import random

from calls import HIGHEST, LOWEST, SECTION
from calls import aspect, cancel, found, may, points, raw_route, route, set_, signal
from calls import tell_points, tell_route, tell_section, tick, track

SECTIONS = 7
ROUTES = 10
BEFORE = (-1, 0, 5, 2)
BUILT = [SECTION] * SECTIONS + [points(k) for k in range(6)] + [signal(before) for before in BEFORE]

KINDS = (
    "section points signal route route may set set set set cancel cancel found found tick aspect "
    "tell_section tell_points tell_route"
).split() + ["track"] * 24
ONE_NUMBER = {
    "points": points, "signal": signal, "may": may, "set": set_, "cancel": cancel, "aspect": aspect,
    "tell_section": tell_section, "tell_points": tell_points, "tell_route": tell_route,
}


def some_number(source, most):
    if source.randrange(8):
        return source.randrange(most)
    return source.choice([-1, most, 64, LOWEST, HIGHEST])


def good_route(source):
    n = source.randrange(1, 5)
    which = source.sample(range(6), source.randrange(4))
    pairs = [(number, source.randrange(2)) for number in which]
    return route(source.randrange(4), source.randrange(1, n + 1), source.sample(range(SECTIONS), n), pairs)


def wrong_route(source):
    of_signal, own, n, m = source.randrange(6), source.randrange(4), source.randrange(5), source.randrange(4)
    if not 1 <= own <= n:
        return raw_route(of_signal, own, n, m)
    sections = [source.randrange(SECTIONS + 1) for k in range(n)]
    return route(of_signal, own, sections, [(source.randrange(7), source.choice([0, 1, 1, 2])) for k in range(m)])


def some_call(source):
    kind = source.choice(KINDS)
    if kind == "section":
        return SECTION
    if kind == "route":
        return source.choice([good_route, wrong_route])(source)
    if kind == "track":
        return track(some_number(source, SECTIONS), source.choice([0] * 15 + [1] * 15 + [2, -1, LOWEST, HIGHEST]))
    if kind == "found":
        return found(some_number(source, 6), source.choice([0, 0, 1, 1, 2, 3, -1, LOWEST, HIGHEST]))
    if kind == "tick":
        return tick(source.choice([1, 59, 60, 119, 120, 121, 3600, 0, -1, 3601, LOWEST, HIGHEST]))
    most = {"aspect": 4, "points": 6, "signal": 6, "tell_points": 6, "tell_section": SECTIONS}.get(kind, ROUTES)
    return ONE_NUMBER[kind](some_number(source, most))


def some_calls(seed, many=500):
    """So many calls; the yard and its first routes are always right, all else is as it comes."""
    source = random.Random(seed)
    calls = BUILT + [good_route(source) for k in range(ROUTES)]
    return calls + [some_call(source) for k in range(many - len(calls))]


def some_waiting(source, number, before):
    """The calls of a train before a signal whose route is given back, now and then too late."""
    ticks = [tick(source.choice([1, 30, 60, 90, 119, 120])) for k in range(source.randrange(3))]
    return [track(before, 1), cancel(number)] + ticks


def some_train(source, number, call):
    """The calls of a train through a route, mostly in the order in which a train goes."""
    sections = call[6:6 + call[3]]
    steps = some_waiting(source, number, BEFORE[call[1]]) if source.randrange(3) == 0 else []
    steps.append(track(sections[0], 1))
    for before, section in zip(sections, sections[1:]):
        steps += [track(section, 1), track(before, 0)]
    steps.append(track(sections[-1], 0))
    if source.randrange(4) == 0:
        place = source.randrange(len(steps))
        steps.insert(place, source.choice(steps))
    return steps


def some_trains(seed, many=250):
    """Routes that are set and trains that go through several at once, mixed with some other calls."""
    source = random.Random(seed)
    routes = [good_route(source) for k in range(ROUTES)]
    calls, trains = BUILT + routes, []
    while len(calls) < many:
        if source.randrange(6) == 0 or not trains:
            number = source.randrange(ROUTES)
            calls.append(set_(number))
            trains = trains[-2:] + [some_train(source, number, routes[number])]
        elif source.randrange(5) == 0:
            calls.append(some_call(source))
        else:
            train = source.choice(trains)
            calls.append(train.pop(0))
            trains = [train for train in trains if train]
    return calls
