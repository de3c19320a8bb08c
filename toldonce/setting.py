"""The calls that set an object up: begin, series, rule, silence, end."""

from toldonce.limits import ANY, FULL, LAST_GROUP, LAST_KIND, LAST_LEVEL, LAST_TIME, LAST_WHAT, LONGEST_SPAN
from toldonce.limits import MISSING, MOST_RULES, MOST_SERIES, MOST_SILENCES, WIDEST_BOUND, WRONG


def begin(state, wait, again):
    if wait > LONGEST_SPAN or again > LONGEST_SPAN:
        return WRONG
    state.start_over(wait, again)
    return 0


def add_series(state, series):
    if series.kind > LAST_KIND or series.group > LAST_GROUP:
        return WRONG
    return number_of_added(state.series, MOST_SERIES, series)


def add_rule(state, rule):
    if is_wrong_choice(rule) or is_wrong_span(rule) or is_wrong_bound(rule):
        return WRONG
    return number_of_added(state.rules, MOST_RULES, rule)


def add_silence(state, silence):
    if silence.rule != ANY and silence.rule >= len(state.rules):
        return WRONG
    if silence.group != ANY and silence.group > LAST_GROUP:
        return WRONG
    if silence.till <= silence.start or silence.till > LAST_TIME:
        return WRONG
    # Ended silences stay in the list, so that they go on counting and no number comes twice.
    return number_of_added(state.silences, MOST_SILENCES, silence)


def end_silence(state, number):
    if number >= len(state.silences):
        return MISSING
    silence = state.silences[number]
    if silence.ended:
        return MISSING
    silence.ended = True
    return 0


def is_wrong_choice(rule):
    return rule.kind > LAST_KIND or rule.what > LAST_WHAT or rule.above > 1 or rule.level > LAST_LEVEL


def is_wrong_span(rule):
    return rule.window == 0 or rule.window > LONGEST_SPAN or rule.hold > LONGEST_SPAN


def is_wrong_bound(rule):
    if abs(rule.bound) > WIDEST_BOUND or abs(rule.over) > WIDEST_BOUND:
        return True
    # A rule that is so and over at once would have no meaning: over lies on the quiet side of bound.
    if rule.above == 1:
        return rule.over > rule.bound
    return rule.over < rule.bound


def number_of_added(held, most, one):
    if len(held) >= most:
        return FULL
    held.append(one)
    return len(held) - 1
