"""Calls written by name, and a line of them asked."""

from toldonce.watch import answers

SPAN = 16777216
LAST_TIME = 2 ** 40
WIDEST_VALUE = 2 ** 40
WIDEST = 2 ** 50
WORD = 2 ** 32 - 1
LONG = 2 ** 64 - 1
LOWEST = -2 ** 63
HIGHEST = 2 ** 63 - 1
ANY = 255


def begin(wait=0, again=0):
    return [0, wait, again]


def series(kind=0, group=0):
    return [1, kind, group]


def rule(kind=0, what=0, above=1, window=1, bound=0, over=0, hold=0, level=0):
    return [2, kind, what, above, window, bound, over, hold, level]


def silence(rule=ANY, group=ANY, start=0, till=1):
    return [3, rule, group, start, till]


def end(k=0):
    return [4, k]


def sample(series=0, value=0):
    return [5, series, value]


def tick(t=0):
    return [6, t]


def note(k=0):
    return [7, k]


def phase(rule=0, series=0):
    return [8, rule, series]


def value(rule=0, series=0):
    return [9, rule, series]


def lamp(**parts):
    """A rule that is so while the last measurement is above 0, however long ago that was, and else over."""
    return rule(**{"window": SPAN, **parts})


def on(series=0):
    return sample(series, 1)


def off(series=0):
    return sample(series, 0)


def line(*calls):
    return [number for call in calls for number in call]


def ask(*calls):
    """The answers to a line, a list for each call."""
    given = answers(line(*calls))
    rows = []
    place = 0
    while place < len(given):
        behind = place + 1 + given[place]
        rows.append(given[place + 1:behind])
        place = behind
    return rows


def numbers(*calls):
    """The answers to a line of which every call is answered by a number alone."""
    rows = ask(*calls)
    if len(rows) != len(calls) or any(len(row) != 1 for row in rows):
        raise AssertionError(f"not one number for each call: {rows}")
    return [row[0] for row in rows]


def after_begin(*calls):
    """The same behind a begin that is answered 0, whose answer is left out."""
    given = numbers(begin(), *calls)
    if given[0] != 0:
        raise AssertionError(f"begin was answered {given[0]}")
    return given[1:]


def rows(*calls, wait=0, again=0):
    """The answers to a line behind a begin that is answered 0, a list for each call but that begin."""
    given = ask(begin(wait, again), *calls)
    if given[0] != [0]:
        raise AssertionError(f"begin was answered {given[0]}")
    return given[1:]


def last(*calls, wait=0, again=0):
    """The answer to the last call of such a line."""
    return rows(*calls, wait=wait, again=again)[-1]


def told(*calls, wait=0, again=0):
    """What the ticks of such a line tell: for each tick a list of its notes, each (group, again, new, over)."""
    asked = []
    for call in calls:
        asked.append(call)
        if call[0] == 6:
            asked.extend(note(k) for k in range(17))
    ticks = []
    for call, row in zip(asked, rows(*asked, wait=wait, again=again)):
        if call[0] == 6:
            ticks.append([])
            counted = row
        if call[0] == 7 and row != [0]:
            ticks[-1].append(read_note(row))
        if call[0] == 7 and call[1] == 16 and counted != [len(ticks[-1])]:
            raise AssertionError(f"tick was answered {counted}, and told {ticks[-1]}")
    return ticks


def read_note(row):
    pairs = list(zip(row[5::2], row[6::2]))
    if row[0] != 1 or len(row) != 5 + 2 * (row[3] + row[4]):
        raise AssertionError(f"not a note: {row}")
    return (row[1], row[2], pairs[:row[3]], pairs[row[3]:])
