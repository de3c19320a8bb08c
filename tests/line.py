"""Calls written by name, and a line of them asked."""

from toldonce.watch import answers

SPAN = 16777216
LAST_TIME = 2 ** 40
WIDEST = 2 ** 50
WORD = 2 ** 32 - 1
LONG = 2 ** 64 - 1
LOWEST = -2 ** 63
HIGHEST = 2 ** 63 - 1
ANY = 255


def begin(wait=0, again=0):
    return [0, wait, again]


def series(kind=0, group=0):
    return [1, kind, group]


def rule(kind=0, what=0, above=1, window=1, bound=0, over=0, hold=0, level=0):
    return [2, kind, what, above, window, bound, over, hold, level]


def silence(rule=ANY, group=ANY, start=0, till=1):
    return [3, rule, group, start, till]


def end(k=0):
    return [4, k]


def line(*calls):
    return [number for call in calls for number in call]


def ask(*calls):
    """The answers to a line, a list for each call."""
    given = answers(line(*calls))
    rows = []
    place = 0
    while place < len(given):
        behind = place + 1 + given[place]
        rows.append(given[place + 1:behind])
        place = behind
    return rows


def numbers(*calls):
    """The answers to a line of which every call is answered by a number alone."""
    rows = ask(*calls)
    if len(rows) != len(calls) or any(len(row) != 1 for row in rows):
        raise AssertionError(f"not one number for each call: {rows}")
    return [row[0] for row in rows]


def after_begin(*calls):
    """The same behind a begin that is answered 0, whose answer is left out."""
    given = numbers(begin(), *calls)
    if given[0] != 0:
        raise AssertionError(f"begin was answered {given[0]}")
    return given[1:]
