"""What is seen of a group: what fires and isn't silenced, but for what is of a lesser level than another such."""

import unittest

from line import lamp, off, on, phase, rows, rule, sample, series, silence, tick, told


def seen(*calls):
    """By group, the pairs that the last tick of such calls tells as new."""
    return {note[0]: note[2] for note in told(*calls)[-1]}


class Levels(unittest.TestCase):
    def test_alike(self):
        for level in range(4):
            made = [series()] + [lamp(level=level)] * 3 + [on()]
            self.assertEqual(seen(*made, tick(1)), {0: [(0, 0), (1, 0), (2, 0)]})

    def test_unlike(self):
        made = [series()] + [lamp(level=level) for level in (1, 3, 0, 2)] + [on()]
        self.assertEqual(seen(*made, tick(1)), {0: [(1, 0)]})

    def test_next_to_one_another(self):
        for level in range(3):
            made = [series(), lamp(level=level), lamp(level=level + 1), on()]
            self.assertEqual(seen(*made, tick(1)), {0: [(1, 0)]})
            made = [series(), lamp(level=level + 1), lamp(level=level), on()]
            self.assertEqual(seen(*made, tick(1)), {0: [(0, 0)]})

    def test_several_of_the_gravest(self):
        made = [series()] + [lamp(level=level) for level in (2, 1, 2, 0, 2)] + [on()]
        self.assertEqual(seen(*made, tick(1)), {0: [(0, 0), (2, 0), (4, 0)]})

    def test_over_several_series(self):
        made = [series(kind=0), series(kind=1), series(kind=0), lamp(kind=0, level=1), lamp(kind=1, level=2)]
        self.assertEqual(seen(*made, on(0), on(2), tick(1)), {0: [(0, 0), (0, 2)]})
        self.assertEqual(seen(*made, on(0), on(1), on(2), tick(1)), {0: [(1, 1)]})

    def test_one_that_does_not_fire_hides_none(self):
        made = [series(), lamp(level=0), rule(level=3, bound=5, over=5, window=9), lamp(level=3, hold=10), on()]
        self.assertEqual(seen(*made, tick(1)), {0: [(0, 0)]})

    def test_one_that_is_neither_so_nor_over_hides(self):
        made = [series(), rule(level=1, window=9, bound=5, over=1), lamp(level=0), sample(0, 9), tick(1), sample(0, 2)]
        self.assertEqual(told(*made, tick(2))[-1], [])

    def test_the_graver_comes_and_goes(self):
        made = [series(kind=0), series(kind=1), lamp(kind=0, level=1), lamp(kind=1, level=2)]
        given = told(*made, on(0), tick(1), on(1), tick(2), off(1), tick(3), off(0), tick(4))
        lesser = (0, 0)
        graver = (1, 1)
        self.assertEqual(given, [
            [(0, 0, [lesser], [])], [(0, 0, [graver], [lesser])], [(0, 0, [lesser], [graver])], [(0, 0, [], [lesser])],
        ])

    def test_the_lesser_beside_the_greater_is_not_told(self):
        made = [series(kind=0), series(kind=1), lamp(kind=0, level=1), lamp(kind=1, level=2)]
        given = told(*made, on(1), tick(1), on(0), tick(2), off(0), tick(3))
        self.assertEqual(given, [[(0, 0, [(1, 1)], [])], [], []])

    def test_the_lesser_goes_on_firing(self):
        made = [series(), lamp(level=1), lamp(level=2), on(), tick(1)]
        self.assertEqual(rows(*made, phase(0, 0), phase(1, 0))[-2:], [[2, 1], [2, 1]])


class Silenced(unittest.TestCase):
    def test_the_graver_one(self):
        made = [series(), lamp(level=1), lamp(level=3), on()]
        self.assertEqual(seen(*made, silence(rule=1, till=9), tick(1)), {0: [(0, 0)]})

    def test_the_lesser_one(self):
        made = [series(), lamp(level=1), lamp(level=3), on()]
        self.assertEqual(seen(*made, silence(rule=0, till=9), tick(1)), {0: [(1, 0)]})

    def test_the_gravest_that_is_left(self):
        made = [series()] + [lamp(level=level) for level in (0, 2, 1, 3, 2)] + [on(), silence(rule=3, till=9)]
        self.assertEqual(seen(*made, tick(1)), {0: [(1, 0), (4, 0)]})

    def test_all(self):
        made = [series(), lamp(level=1), lamp(level=3), on(), silence(group=0, till=9)]
        self.assertEqual(told(*made, tick(1)), [[]])

    def test_the_graver_in_one_group_alone(self):
        made = [series(group=1), series(group=2), lamp(level=1), lamp(level=3), on(0), on(1)]
        self.assertEqual(seen(*made, silence(rule=1, group=2, till=9), tick(1)), {1: [(1, 0)], 2: [(0, 1)]})


class Groups(unittest.TestCase):
    def test_each_apart(self):
        made = [series(kind=0, group=4), series(kind=1, group=6), lamp(kind=0, level=0), lamp(kind=1, level=3)]
        self.assertEqual(seen(*made, on(0), on(1), tick(1)), {4: [(0, 0)], 6: [(1, 1)]})

    def test_the_same_in_several(self):
        made = [series(group=group) for group in (2, 0, 2, 1)] + [lamp(level=2), lamp(level=0), lamp(level=2)]
        given = seen(*made, *[on(k) for k in range(4)], tick(1))
        self.assertEqual(given, {0: [(0, 1), (2, 1)], 1: [(0, 3), (2, 3)], 2: [(0, 0), (0, 2), (2, 0), (2, 2)]})

    def test_of_one_kind_in_all(self):
        made = [series(kind=7, group=group) for group in range(16)] + [lamp(kind=7)] + [on(k) for k in range(16)]
        self.assertEqual(seen(*made, tick(1)), {group: [(0, group)] for group in range(16)})


if __name__ == "__main__":
    unittest.main()
