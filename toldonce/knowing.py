"""What is known of rules and series, from one tick to the next."""

from toldonce.looking import is_over, is_so, value_of

BEEN_SO = 1
FIRES = 2


# Built anew in the order of rules, then series: what is told comes in that order.
def known_now(state):
    known = {}
    for rule_number, rule in enumerate(state.rules):
        for series_number, series in enumerate(state.series):
            if series.kind == rule.kind:
                pair = (rule_number, series_number)
                value = value_of(rule, series, state.now)
                after = known_after(state.known.get(pair), rule, value, state.now)
                if after is not None:
                    known[pair] = after
    return known


# A phase and since when; None, before and after, where nothing is known.
def known_after(before, rule, value, now):
    if before is None:
        return known_first(rule, value, now)
    if before[0] == FIRES:
        return None if is_over(rule, value) else before
    if not is_so(rule, value):
        return None
    if now - before[1] >= rule.hold:
        return (FIRES, now)
    return before


def known_first(rule, value, now):
    if not is_so(rule, value):
        return None
    if rule.hold == 0:
        return (FIRES, now)
    return (BEEN_SO, now)
