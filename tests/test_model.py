"""Many lines, each answered as by the slow second writing in model.py: a, b and c of what holds, all calls together."""

import random
import unittest

from line import ANY, LAST_TIME, SPAN, WIDEST, WIDEST_VALUE, ask, begin, end, note, phase, rule, sample, series, silence
from line import tick, value
from model import model_answers


class Maker:
    """Makes a line whose numbers lie close together, so that windows, holds, waits and silences meet."""

    def __init__(self, seed):
        self.draw = random.Random(seed)
        self.now = 0
        self.spread = self.draw.choice((2, 3, 8))

    def up_to(self, most):
        return self.draw.randint(0, most)

    def begin(self):
        self.now = 0
        return begin(self.up_to(6), self.draw.choice((0, 1, 3, 5, 9)))

    def series(self):
        return series(self.up_to(2), self.draw.choice((0, 1, 1, 15)))

    def rule(self):
        above = self.up_to(1)
        bound = self.draw.randint(-2, 2)
        over = bound + self.up_to(2) * (-1 if above else 1)
        return rule(self.up_to(2), self.up_to(5), above, 1 + self.up_to(7), bound, over, self.up_to(5), self.up_to(2))

    def silence(self):
        start = max(0, self.now + self.draw.randint(-4, 6))
        group = self.draw.choice((0, 1, 15, ANY))
        return silence(self.draw.choice((0, 1, 2, ANY)), group, start, start + self.up_to(6))

    def sample(self):
        return sample(self.up_to(5), self.draw.randint(-self.spread, self.spread))

    def tick(self):
        self.now += self.draw.choice((0, 1, 1, 1, 2, 3, 6))
        asked = [tick(self.now), note(0), note(1), note(2), note(3)]
        asked += [phase(self.up_to(4), self.up_to(5)) for k in range(3)]
        return asked + [value(self.up_to(4), self.up_to(5)) for k in range(3)]

    def odd_one(self):
        return self.draw.choice((
            begin(SPAN + 1, 0), series(32, 0), rule(level=4), rule(above=1, over=1), silence(till=LAST_TIME + 1),
            sample(0, WIDEST_VALUE + 1), sample(64, 0), tick(LAST_TIME + 1), tick(max(0, self.now - 1)), note(16),
            phase(32, 0), value(0, 64), end(self.up_to(4)), rule(what=3, window=SPAN, bound=WIDEST, over=-WIDEST),
        ))

    def line(self, steps):
        calls = [self.begin()] + [self.series() for k in range(5)] + [self.rule() for k in range(4)]
        for k in range(steps):
            step = self.draw.random()
            if step < 0.40:
                calls.append(self.sample())
            elif step < 0.85:
                calls.extend(self.tick())
            elif step < 0.92:
                calls.append(self.silence())
            elif step < 0.95:
                calls.append(end(self.up_to(4)))
            elif step < 0.97:
                calls.append(self.draw.choice((self.series, self.rule))())
            else:
                calls.append(self.odd_one())
        return calls


class AsTheModel(unittest.TestCase):
    def alike(self, calls, seed):
        given = ask(*calls)
        expected = model_answers(calls)
        for k, (call, row, wanted) in enumerate(zip(calls, given, expected)):
            self.assertEqual(row, wanted, f"line {seed}, call {k}: {call}")
        self.assertEqual(len(given), len(expected))
        return given

    def test_many_lines(self):
        told = 0
        for seed in range(150):
            calls = Maker(seed).line(90)
            given = self.alike(calls, seed)
            told += sum(row[0] == 1 for call, row in zip(calls, given) if call[0] == 7)
        # The lines would show little if next to nothing were told in them.
        self.assertGreater(told, 1500)

    def test_lines_with_a_second_begin(self):
        for seed in range(1000, 1040):
            maker = Maker(seed)
            self.alike(maker.line(40) + maker.line(40), seed)

    def test_long_lines_with_more_than_64_measurements(self):
        for seed in range(2000, 2010):
            draw = random.Random(seed)
            calls = [begin(), series(), series()] + [rule(0, what, 1, 40, 5, 0, 3, 0) for what in range(6)]
            for t in range(60):
                calls += [sample(draw.randint(0, 1), draw.randint(-9, 9)) for k in range(draw.randint(0, 9))]
                calls += [tick(t)] + [value(what, k) for what in range(6) for k in range(2)]
                calls += [phase(what, 0) for what in range(6)] + [note(0)]
            self.alike(calls, seed)


if __name__ == "__main__":
    unittest.main()
