"""The calls as lists of numbers, and their answers taken apart again, for all tests."""

from yardlocks.desk import answers

LOWEST = -2147483648
HIGHEST = 2147483647

SECTION = [1]


def points(section):
    return [2, section]


def signal(before):
    return [3, before]


def route(of_signal, own, sections, pairs=()):
    given = list(sections) + [number for pair in pairs for number in pair]
    return raw_route(of_signal, own, len(sections), len(pairs), given)


def raw_route(of_signal, own, n, m, given=()):
    return [4, of_signal, own, n, m, len(given)] + list(given)


def may(number):
    return [5, number]


def set_(number):
    return [6, number]


def cancel(number):
    return [7, number]


def one_list(calls):
    return [number for call in calls for number in call]


def taken_apart(told):
    """The rows of an answer, of which each has its count before it."""
    rows = []
    at = 0
    while at < len(told):
        count = told[at]
        rows.append(told[at + 1:at + 1 + count])
        if len(rows[-1]) != count:
            raise AssertionError(f"an answer is cut off: {told}")
        at += 1 + count
    return rows


def ask(calls):
    """What each of the calls is answered, where each is answered one number."""
    rows = taken_apart(answers(one_list(calls)))
    if len(rows) != len(calls) or any(len(row) != 1 for row in rows):
        raise AssertionError(f"not one number for each call: {rows}")
    return [row[0] for row in rows]


def ask_last(calls, last):
    """What each call of last is answered, after those of calls."""
    return ask(list(calls) + list(last))[len(calls):]
