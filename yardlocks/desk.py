"""The calls on a yard, as they stand one behind another in one list, and their answers."""

from yardlocks.building import add_points
from yardlocks.building import add_route
from yardlocks.building import add_section
from yardlocks.building import add_signal
from yardlocks.locking import cancel_route
from yardlocks.locking import may_set
from yardlocks.locking import pass_seconds
from yardlocks.locking import set_route
from yardlocks.reports import report_points
from yardlocks.reports import report_section
from yardlocks.telling import aspect_of
from yardlocks.telling import tell_points
from yardlocks.telling import tell_route
from yardlocks.telling import tell_section
from yardlocks.things import Yard

CALL_SECTION = 1
CALL_POINTS = 2
CALL_SIGNAL = 3
CALL_ROUTE = 4
CALL_MAY = 5
CALL_SET = 6
CALL_CANCEL = 7
CALL_TRACK = 8
CALL_FOUND = 9
CALL_TICK = 10
CALL_ASPECT = 11
CALL_TELL_SECTION = 12
CALL_TELL_POINTS = 13
CALL_TELL_ROUTE = 14

# In a route's call: where the count of its row stands, and where the row itself begins.
ROW_COUNT_AT = 5
ROW_AT = 6


class UnknownCall(ValueError):
    pass


def answers(calls):
    yard = Yard()
    told = []
    at = 0
    while at < len(calls):
        length = call_length(calls, at)
        answered = answer(yard, calls[at:at + length])
        told.append(len(answered))
        told.extend(answered)
        at += length
    return told


def call_length(calls, at):
    if calls[at] == CALL_SECTION:
        return 1
    if calls[at] == CALL_ROUTE:
        return ROW_AT + calls[at + ROW_COUNT_AT]
    if calls[at] in (CALL_TRACK, CALL_FOUND):
        return 3
    return 2


def answer(yard, call):
    if call[0] == CALL_SECTION:
        return [add_section(yard)]
    if call[0] == CALL_ROUTE:
        return [add_route(yard, call[1], call[2], call[3], call[4], call[ROW_AT:])]
    if call[0] == CALL_TRACK:
        return [report_section(yard, call[1], call[2])]
    if call[0] == CALL_FOUND:
        return [report_points(yard, call[1], call[2])]
    if call[0] == CALL_TELL_SECTION:
        return tell_section(yard, call[1])
    if call[0] == CALL_TELL_POINTS:
        return tell_points(yard, call[1])
    if call[0] == CALL_TELL_ROUTE:
        return tell_route(yard, call[1])
    return [one_number(yard, call[0], call[1])]


def one_number(yard, kind, number):
    if kind == CALL_POINTS:
        return add_points(yard, number)
    if kind == CALL_SIGNAL:
        return add_signal(yard, number)
    if kind == CALL_MAY:
        return may_set(yard, number)
    if kind == CALL_SET:
        return set_route(yard, number)
    if kind == CALL_CANCEL:
        return cancel_route(yard, number)
    if kind == CALL_TICK:
        return pass_seconds(yard, number)
    if kind == CALL_ASPECT:
        return aspect_of(yard, number)
    raise UnknownCall(f"no call has the number {kind}")
