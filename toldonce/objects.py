"""What one object keeps from call to call."""

from toldonce.limits import LAST_GROUP


# Where measurements of one kind come in, for one group.
class Series:
    def __init__(self, kind, group):
        self.kind = kind
        self.group = group
        # Side by side, the oldest first: when each measurement came, and what was measured.
        self.times = []
        self.measured = []


# When something is wrong with a series of one kind.
class Rule:
    def __init__(self, kind, what, above, window, bound, over, hold, level):
        self.kind = kind
        self.what = what
        self.above = above
        self.window = window
        self.bound = bound
        self.over = over
        self.hold = hold
        self.level = level


# What is hidden from a time on, before another one.
class Silence:
    def __init__(self, rule, group, start, till):
        self.rule = rule
        self.group = group
        self.start = start
        self.till = till
        self.ended = False


# What people hold to be so of one group, and when they last heard of it (None: never).
class Told:
    def __init__(self):
        self.pairs = []
        self.last = None


# What one tick told of one group.
class Note:
    def __init__(self, group, again, new, over):
        self.group = group
        self.again = again
        self.new = new
        self.over = over


# All that the calls on one object have set.
class State:
    def __init__(self):
        self.start_over(0, 0)

    def start_over(self, wait, again):
        self.wait = wait
        self.again = again
        self.now = 0
        self.series = []
        self.rules = []
        self.silences = []
        # By pair (rule, series), in that order: a phase and since when; a pair of which nothing is known isn't there.
        self.known = {}
        self.told = [Told() for group in range(LAST_GROUP + 1)]
        self.notes = []
