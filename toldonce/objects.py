"""What one object keeps from call to call."""


# Where measurements of one kind come in, for one group.
class Series:
    def __init__(self, kind, group):
        self.kind = kind
        self.group = group


# When something is wrong with a series of one kind.
class Rule:
    def __init__(self, kind, what, above, window, bound, over, hold, level):
        self.kind = kind
        self.what = what
        self.above = above
        self.window = window
        self.bound = bound
        self.over = over
        self.hold = hold
        self.level = level


# What is hidden from a time on, before another one.
class Silence:
    def __init__(self, rule, group, start, till):
        self.rule = rule
        self.group = group
        self.start = start
        self.till = till
        self.ended = False


# All that the calls on one object have set.
class State:
    def __init__(self):
        self.wait = 0
        self.again = 0
        self.series = []
        self.rules = []
        self.silences = []
