"""The calls as lists of numbers, and their answers taken apart again, for all tests."""

from yardlocks.desk import answers

LOWEST = -2147483648
HIGHEST = 2147483647

SECTION = [1]


def points(section):
    return [2, section]


def signal(before):
    return [3, before]


def route(of_signal, own, sections, pairs=()):
    given = list(sections) + [number for pair in pairs for number in pair]
    return raw_route(of_signal, own, len(sections), len(pairs), given)


def raw_route(of_signal, own, n, m, given=()):
    return [4, of_signal, own, n, m, len(given)] + list(given)


def may(number):
    return [5, number]


def set_(number):
    return [6, number]


def cancel(number):
    return [7, number]


def track(section, occupied):
    return [8, section, occupied]


def tracks(*pairs):
    return [track(section, occupied) for section, occupied in pairs]


def found(which, where):
    return [9, which, where]


def tick(seconds):
    return [10, seconds]


def aspect(number):
    return [11, number]


def tell_section(number):
    return [12, number]


def tell_points(number):
    return [13, number]


def tell_route(number):
    return [14, number]


def look(sections, points_, signals, routes):
    """The calls that tell all that can be told of a yard with so many of each."""
    calls = [tell_section(number) for number in range(sections)]
    calls += [tell_points(number) for number in range(points_)]
    calls += [aspect(number) for number in range(signals)]
    return calls + [tell_route(number) for number in range(routes)]


def one_list(calls):
    return [number for call in calls for number in call]


def taken_apart(told):
    """The rows of an answer, of which each has its count before it."""
    rows = []
    at = 0
    while at < len(told):
        count = told[at]
        rows.append(told[at + 1:at + 1 + count])
        if len(rows[-1]) != count:
            raise AssertionError(f"an answer is cut off: {told}")
        at += 1 + count
    return rows


def ask_rows(calls):
    """What each of the calls is answered, as a row of numbers."""
    rows = taken_apart(answers(one_list(calls)))
    if len(rows) != len(calls):
        raise AssertionError(f"not one answer for each call: {rows}")
    return rows


def ask_rows_last(calls, last):
    return ask_rows(list(calls) + list(last))[len(calls):]


def ask(calls):
    """What each of the calls is answered, where each is answered one number."""
    rows = ask_rows(calls)
    if any(len(row) != 1 for row in rows):
        raise AssertionError(f"not one number for each call: {rows}")
    return [row[0] for row in rows]


def ask_last(calls, last):
    """What each call of last is answered, after those of calls."""
    return ask(list(calls) + list(last))[len(calls):]
