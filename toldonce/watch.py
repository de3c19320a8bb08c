"""The calls on one new object, gone through one behind another."""

from toldonce.asking import note_answer, phase_answer, value_answer
from toldonce.objects import Rule, Series, Silence, State
from toldonce.running import sample, tick
from toldonce.setting import add_rule, add_series, add_silence, begin, end_silence

BEGIN = 0
SERIES = 1
RULE = 2
SILENCE = 3
END = 4
SAMPLE = 5
NOTE = 7
PHASE = 8
VALUE = 9

# How many whole numbers stand behind each call's number.
SIZES = (2, 2, 8, 4, 1, 2, 1, 1, 2, 2)


def answers(calls):
    state = State()
    given = []
    place = 0
    while place < len(calls):
        call = calls[place]
        behind = place + 1 + SIZES[call]
        answer = answer_of(state, call, calls[place + 1:behind])
        given.append(len(answer))
        given.extend(answer)
        place = behind
    return given


def answer_of(state, call, row):
    if call == NOTE:
        return note_answer(state, row[0])
    if call == PHASE:
        return phase_answer(state, row[0], row[1])
    if call == VALUE:
        return value_answer(state, row[0], row[1])
    return [number_of(state, call, row)]


# The calls that are answered by a number alone.
def number_of(state, call, row):
    if call == BEGIN:
        return begin(state, row[0], row[1])
    if call == SERIES:
        return add_series(state, Series(row[0], row[1]))
    if call == RULE:
        return add_rule(state, rule_of(row))
    if call == SILENCE:
        return add_silence(state, Silence(row[0], row[1], row[2], row[3]))
    if call == END:
        return end_silence(state, row[0])
    if call == SAMPLE:
        return sample(state, row[0], row[1])
    # SIZES knows ten calls, of which tick alone is left.
    return tick(state, row[0])


def rule_of(row):
    return Rule(row[0], row[1], row[2], row[3], row[4], row[5], row[6], row[7])
