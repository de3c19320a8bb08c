"""Promise 2: rule."""

import unittest

from line import HIGHEST, LOWEST, SPAN, WIDEST, WORD, after_begin, rule, series, silence


class Rule(unittest.TestCase):
    def taken(self, **parts):
        self.assertEqual(after_begin(rule(**parts)), [0], parts)

    def refused(self, **parts):
        self.assertEqual(after_begin(rule(**parts), rule()), [-22, 0], parts)

    def test_numbered_as_they_come(self):
        first = rule(kind=4, what=3, above=1, window=60, bound=100, over=80, hold=30, level=2)
        second = rule(kind=4, what=1, above=0, window=60, bound=10, over=20, hold=30, level=1)
        self.assertEqual(after_begin(first, second, first), [0, 1, 2])

    def test_numbered_apart_from_series(self):
        self.assertEqual(after_begin(series(), rule(), series(), rule()), [0, 0, 1, 1])

    def test_kind_at_its_edge(self):
        self.taken(kind=0)
        self.taken(kind=31)
        self.refused(kind=32)

    def test_a_kind_of_no_series(self):
        self.assertEqual(after_begin(series(kind=1), rule(kind=2)), [0, 0])

    def test_what_at_its_edge(self):
        for what in range(6):
            self.taken(what=what)
        self.refused(what=6)

    def test_above_at_its_edge(self):
        self.taken(above=0)
        self.taken(above=1)
        self.refused(above=2)
        self.refused(above=2, bound=1, over=0)
        self.refused(above=2, bound=0, over=1)

    def test_window_at_its_edges(self):
        self.refused(window=0)
        self.taken(window=1)
        self.taken(window=SPAN)
        self.refused(window=SPAN + 1)

    def test_hold_at_its_edge(self):
        self.taken(hold=0)
        self.taken(hold=SPAN)
        self.refused(hold=SPAN + 1)

    def test_level_at_its_edge(self):
        self.taken(level=0)
        self.taken(level=3)
        self.refused(level=4)

    def test_bound_and_over_at_their_edges(self):
        for above in (0, 1):
            self.taken(above=above, bound=WIDEST, over=WIDEST)
            self.taken(above=above, bound=-WIDEST, over=-WIDEST)
            self.refused(above=above, bound=WIDEST + 1, over=WIDEST + 1)
            self.refused(above=above, bound=-WIDEST - 1, over=-WIDEST - 1)

    def test_widest_apart(self):
        self.taken(above=1, bound=WIDEST, over=-WIDEST)
        self.taken(above=0, bound=-WIDEST, over=WIDEST)
        self.refused(above=0, bound=WIDEST, over=-WIDEST)
        self.refused(above=1, bound=-WIDEST, over=WIDEST)

    def test_bound_alone_just_outside(self):
        self.refused(above=1, bound=WIDEST + 1, over=0)
        self.refused(above=0, bound=WIDEST + 1, over=WIDEST)
        self.refused(above=1, bound=-WIDEST - 1, over=-WIDEST)
        self.refused(above=0, bound=-WIDEST - 1, over=0)

    def test_over_alone_just_outside(self):
        self.refused(above=1, bound=0, over=-WIDEST - 1)
        self.refused(above=1, bound=WIDEST, over=WIDEST + 1)
        self.refused(above=0, bound=0, over=WIDEST + 1)
        self.refused(above=0, bound=-WIDEST, over=-WIDEST - 1)

    def test_over_beside_bound_with_above_1(self):
        for bound in (-100, -1, 0, 1, 100):
            self.taken(above=1, bound=bound, over=bound)
            self.taken(above=1, bound=bound, over=bound - 1)
            self.refused(above=1, bound=bound, over=bound + 1)

    def test_over_beside_bound_with_above_0(self):
        for bound in (-100, -1, 0, 1, 100):
            self.taken(above=0, bound=bound, over=bound)
            self.taken(above=0, bound=bound, over=bound + 1)
            self.refused(above=0, bound=bound, over=bound - 1)

    def test_largest_of_each(self):
        for name in ("kind", "what", "above", "window", "hold", "level"):
            self.refused(**{name: WORD})
        self.refused(kind=WORD, what=WORD, above=WORD, window=WORD, bound=HIGHEST, over=HIGHEST, hold=WORD, level=WORD)

    def test_smallest_of_all(self):
        self.refused(above=0, window=0, bound=LOWEST, over=LOWEST)

    def test_largest_and_smallest_with_sign(self):
        for above in (0, 1):
            for bound in (LOWEST, 0, HIGHEST):
                for over in (LOWEST, 0, HIGHEST):
                    if bound == 0 and over == 0:
                        continue
                    self.refused(above=above, bound=bound, over=over)

    def test_all_at_their_largest_that_are_taken(self):
        self.taken(kind=31, what=5, above=1, window=SPAN, bound=WIDEST, over=WIDEST, hold=SPAN, level=3)

    def test_at_most_32(self):
        self.assertEqual(after_begin(*[rule()] * 34), list(range(32)) + [-28, -28])

    def test_refused_ones_do_not_count_among_32(self):
        given = after_begin(*[rule(level=4)] * 40, *[rule()] * 33)
        self.assertEqual(given, [-22] * 40 + list(range(32)) + [-28])

    def test_refused_is_no_rule_for_a_silence(self):
        given = after_begin(rule(), rule(level=4), silence(rule=1), silence(rule=0))
        self.assertEqual(given, [0, -22, -22, 0])

    def test_wrong_comes_before_full(self):
        wrong = [
            rule(kind=32), rule(what=6), rule(above=2), rule(window=0), rule(window=SPAN + 1), rule(hold=SPAN + 1),
            rule(level=4), rule(bound=WIDEST + 1), rule(over=-WIDEST - 1), rule(above=1, over=1),
            rule(above=0, over=-1),
        ]
        given = after_begin(*[rule()] * 32, *wrong, rule())
        self.assertEqual(given[32:], [-22] * len(wrong) + [-28])


if __name__ == "__main__":
    unittest.main()
