"""A second, slow writing of the document: everything is worked out anew from all that was handed in.

It keeps no phases and no windows. Where a rule fires is read off a of "What holds": where it held for so long, and
wasn't over since. What was told is added up from the notes, as b says.
"""

ANY = 255


class Model:
    def __init__(self):
        self.begin(0, 0)

    def begin(self, wait, again):
        if max(wait, again) > 2 ** 24:
            return [-22]
        self.wait, self.again, self.now = wait, again, 0
        self.kinds, self.groups, self.measured = [], [], []
        self.rules, self.silences, self.ended = [], [], set()
        self.looks = {}
        self.notes = [[]]
        self.told_at = {}
        return [0]

    def series(self, kind, group):
        if kind > 31 or group > 15:
            return [-22]
        if len(self.kinds) == 64:
            return [-28]
        self.kinds.append(kind)
        self.groups.append(group)
        self.measured.append([])
        return [len(self.kinds) - 1]

    def rule(self, kind, what, above, window, bound, over, hold, level):
        quiet = bound - over if above == 1 else over - bound
        allowed = [
            kind in range(32), what in range(6), above in range(2), window in range(1, 2 ** 24 + 1),
            hold in range(2 ** 24 + 1), level in range(4), bound in range(-2 ** 50, 2 ** 50 + 1),
            over in range(-2 ** 50, 2 ** 50 + 1), quiet >= 0,
        ]
        if not all(allowed):
            return [-22]
        if len(self.rules) == 32:
            return [-28]
        self.rules.append((kind, what, above, window, bound, over, hold, level))
        return [len(self.rules) - 1]

    def silence(self, rule, group, start, till):
        if rule not in [ANY, *range(len(self.rules))] or group not in [ANY, *range(16)]:
            return [-22]
        if not start < till <= 2 ** 40:
            return [-22]
        if len(self.silences) == 32:
            return [-28]
        self.silences.append((rule, group, start, till))
        return [len(self.silences) - 1]

    def end(self, k):
        if k not in range(len(self.silences)) or k in self.ended:
            return [-2]
        self.ended.add(k)
        return [0]

    def sample(self, series, value):
        if series not in range(len(self.kinds)):
            return [-2]
        if not -2 ** 40 <= value <= 2 ** 40:
            return [-22]
        self.measured[series].append((self.now, value))
        return [0]

    def tick(self, t):
        if not self.now <= t <= 2 ** 40:
            return [-22]
        self.now = t
        for rule in range(len(self.rules)):
            for series in range(len(self.kinds)):
                if self.rules[rule][0] == self.kinds[series]:
                    self.looks.setdefault((rule, series), []).append((t, *self.judged(rule, series)))
        told = [self.told_of(group) for group in range(16)]
        self.notes.append([note for note in told if note is not None])
        return [len(self.notes[-1])]

    def note(self, k):
        if k not in range(len(self.notes[-1])):
            return [0]
        group, again, new, over = self.notes[-1][k]
        return [1, group, again, len(new), len(over)] + [number for pair in new + over for number in pair]

    def phase(self, rule, series):
        if rule not in range(len(self.rules)) or series not in range(len(self.kinds)):
            return [-2]
        looks = self.looks.get((rule, series), [])
        fired = [fires(looks[:many + 1], self.rules[rule][6]) for many in range(len(looks))]
        if fired and fired[-1]:
            return [2, looks[first_of_last_run(fired)][0]]
        if looks and looks[-1][1]:
            return [1, looks[first_of_last_run([look[1] for look in looks])][0]]
        return [0]

    def value(self, rule, series):
        if rule not in range(len(self.rules)) or series not in range(len(self.kinds)):
            return [-2]
        value = self.looked_at(rule, series)
        return [0] if value is None else [1, value]

    def looked_at(self, rule, series):
        what, window = self.rules[rule][1], self.rules[rule][3]
        values = [value for time, value in self.measured[series][-64:] if self.now - window < time <= self.now]
        if what == 4:
            return len(values)
        if not values:
            return None
        ordered = sorted(values)
        return (values[-1], ordered[0], ordered[-1], sum(values), None, values[-1] - values[0])[what]

    def judged(self, rule, series):
        above, bound, over = self.rules[rule][2], self.rules[rule][4], self.rules[rule][5]
        value = self.looked_at(rule, series)
        if value is None:
            return False, False
        return (value > bound, value <= over) if above == 1 else (value < bound, value >= over)

    def silenced(self, rule, series):
        return any(
            k not in self.ended and start <= self.now < till
            and asked in (rule, ANY) and group in (self.groups[series], ANY)
            for k, (asked, group, start, till) in enumerate(self.silences)
        )

    def seen(self, group):
        plain = [
            (rule, series) for (rule, series), looks in self.looks.items()
            if self.groups[series] == group and fires(looks, self.rules[rule][6]) and not self.silenced(rule, series)
        ]
        return {pair for pair in plain if not any(self.rules[other[0]][7] > self.rules[pair[0]][7] for other in plain)}

    def told_so_far(self, group):
        """What the notes up to now add up to."""
        told = set()
        for tick in self.notes:
            for of, again, new, over in tick:
                if of == group:
                    told = (told | set(new)) - set(over)
        return told

    def told_of(self, group):
        seen, told = self.seen(group), self.told_so_far(group)
        ago = self.now - self.told_at[group] if group in self.told_at else 2 ** 64
        if seen != told and ago >= self.wait:
            self.told_at[group] = self.now
            return (group, 0, sorted(seen - told), sorted(told - seen))
        if seen == told and seen and self.again != 0 and ago >= self.again:
            self.told_at[group] = self.now
            return (group, 1, [], [])
        return None


def fires(looks, hold):
    """a: there's a look up to which it was so for hold, without a break, and none behind it was over."""
    for end in reversed(range(len(looks))):
        start = end
        while start >= 0 and looks[start][1]:
            if looks[end][0] - looks[start][0] >= hold:
                return True
            start -= 1
        if looks[end][2]:
            return False
    return False


def first_of_last_run(marks):
    place = len(marks)
    while place > 0 and marks[place - 1]:
        place -= 1
    return place


CALLS = ("begin", "series", "rule", "silence", "end", "sample", "tick", "note", "phase", "value")


def model_answers(calls):
    """The answers to a line that is a list of calls, a list for each."""
    model = Model()
    return [getattr(model, CALLS[call[0]])(*call[1:]) for call in calls]
