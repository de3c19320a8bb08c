"""The calls that only ask: note, phase and value."""

from toldonce.limits import MISSING
from toldonce.looking import value_of


def note_answer(state, number):
    if number >= len(state.notes):
        return [0]
    note = state.notes[number]
    answer = [1, note.group, note.again, len(note.new), len(note.over)]
    for pair in note.new + note.over:
        answer.extend(pair)
    return answer


def phase_answer(state, rule_number, series_number):
    if not is_there(state, rule_number, series_number):
        return [MISSING]
    known = state.known.get((rule_number, series_number))
    if known is None:
        return [0]
    return [known[0], known[1]]


def value_answer(state, rule_number, series_number):
    if not is_there(state, rule_number, series_number):
        return [MISSING]
    value = value_of(state.rules[rule_number], state.series[series_number], state.now)
    if value is None:
        return [0]
    return [1, value]


def is_there(state, rule_number, series_number):
    return rule_number < len(state.rules) and series_number < len(state.series)
