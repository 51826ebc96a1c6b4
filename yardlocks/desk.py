"""The calls on a yard, as they stand one behind another in one list, and their answers."""

from yardlocks.building import add_points
from yardlocks.building import add_route
from yardlocks.building import add_section
from yardlocks.building import add_signal
from yardlocks.locking import cancel_route
from yardlocks.locking import may_set
from yardlocks.locking import set_route
from yardlocks.things import Yard

CALL_SECTION = 1
CALL_POINTS = 2
CALL_SIGNAL = 3
CALL_ROUTE = 4
CALL_MAY = 5
CALL_SET = 6
CALL_CANCEL = 7

# In a route's call: where the count of its row stands, and where the row itself begins.
ROW_COUNT_AT = 5
ROW_AT = 6


class UnknownCall(ValueError):
    pass


def answers(calls):
    yard = Yard()
    told = []
    at = 0
    while at < len(calls):
        length = call_length(calls, at)
        answered = answer(yard, calls[at:at + length])
        told.append(len(answered))
        told.extend(answered)
        at += length
    return told


def call_length(calls, at):
    if calls[at] == CALL_SECTION:
        return 1
    if calls[at] == CALL_ROUTE:
        return ROW_AT + calls[at + ROW_COUNT_AT]
    return 2


def answer(yard, call):
    if call[0] == CALL_SECTION:
        return [add_section(yard)]
    if call[0] == CALL_ROUTE:
        return [add_route(yard, call[1], call[2], call[3], call[4], call[ROW_AT:])]
    return [answer_to_one_number(yard, call[0], call[1])]


def answer_to_one_number(yard, kind, number):
    if kind == CALL_POINTS:
        return add_points(yard, number)
    if kind == CALL_SIGNAL:
        return add_signal(yard, number)
    if kind == CALL_MAY:
        return may_set(yard, number)
    if kind == CALL_SET:
        return set_route(yard, number)
    if kind == CALL_CANCEL:
        return cancel_route(yard, number)
    raise UnknownCall(f"no call has the number {kind}")
