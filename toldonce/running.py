"""The calls that go on with time: sample and tick."""

from toldonce.knowing import known_now
from toldonce.limits import LAST_TIME, MISSING, MOST_MEASURED, WIDEST_VALUE, WRONG
from toldonce.telling import notes_now


def sample(state, number, value):
    if number >= len(state.series):
        return MISSING
    if abs(value) > WIDEST_VALUE:
        return WRONG
    series = state.series[number]
    if len(series.times) == MOST_MEASURED:
        series.times.pop(0)
        series.measured.pop(0)
    series.times.append(state.now)
    series.measured.append(value)
    return 0


def tick(state, time):
    if time < state.now or time > LAST_TIME:
        return WRONG
    state.now = time
    state.known = known_now(state)
    state.notes = notes_now(state)
    return len(state.notes)
