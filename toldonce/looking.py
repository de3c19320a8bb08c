"""What a rule looks at in a series, and what it makes of that."""

LAST = 0
LEAST = 1
GREATEST = 2
TOTAL = 3
HOW_MANY = 4


# None where the rule has no value. Time never goes back, so that no measurement is later than now.
def value_of(rule, series, now):
    measured = series.measured[first_later(series.times, now - rule.window):]
    if rule.what == HOW_MANY:
        return len(measured)
    if len(measured) == 0:
        return None
    if rule.what == LAST:
        return measured[-1]
    if rule.what == LEAST:
        return min(measured)
    if rule.what == GREATEST:
        return max(measured)
    if rule.what == TOTAL:
        return sum(measured)
    return measured[-1] - measured[0]


# The place of the first time later than the given one; the times are in order, so halving finds it.
def first_later(times, time):
    low = 0
    high = len(times)
    while low < high:
        middle = (low + high) // 2
        if times[middle] > time:
            high = middle
        else:
            low = middle + 1
    return low


def is_so(rule, value):
    if value is None:
        return False
    if rule.above == 1:
        return value > rule.bound
    return value < rule.bound


def is_over(rule, value):
    if value is None:
        return False
    if rule.above == 1:
        return value <= rule.over
    return value >= rule.over
