"""Promise 4: sample."""

import unittest

from line import HIGHEST, LOWEST, SPAN, WIDEST_VALUE, WORD, after_begin, last, rows, rule, sample, series, tick, value

# Rules that show a series' measurements: the last, the least, the greatest, the sum, how many, the last less the first.
SHOWN = [rule(what=what, window=SPAN) for what in range(6)]


def shown(*calls):
    """What the six rules look at in series 0 behind such calls."""
    given = rows(series(), *SHOWN, *calls, *[value(what, 0) for what in range(6)])[-6:]
    return [row[1] if row[0] == 1 else None for row in given]


class Sample(unittest.TestCase):
    def test_a_series_that_there_is(self):
        self.assertEqual(after_begin(series(), sample(0, 5)), [0, 0])

    def test_a_series_that_there_is_not(self):
        self.assertEqual(after_begin(sample(0, 5)), [-2])
        self.assertEqual(after_begin(series(), sample(1, 5), sample(WORD, 5), sample(0, 5)), [0, -2, -2, 0])

    def test_series_at_their_edge(self):
        self.assertEqual(after_begin(*[series()] * 64, sample(63, 1), sample(64, 1))[64:], [0, -2])

    def test_rules_are_no_series(self):
        self.assertEqual(after_begin(rule(), sample(0, 5)), [0, -2])

    def test_value_at_its_edges(self):
        for edge in (WIDEST_VALUE, -WIDEST_VALUE):
            self.assertEqual(after_begin(series(), sample(0, edge)), [0, 0])
        for outside in (WIDEST_VALUE + 1, -WIDEST_VALUE - 1, HIGHEST, LOWEST):
            self.assertEqual(after_begin(series(), sample(0, outside)), [0, -22])

    def test_values_at_their_edges_are_kept_whole(self):
        self.assertEqual(shown(sample(0, WIDEST_VALUE))[0], WIDEST_VALUE)
        self.assertEqual(shown(sample(0, -WIDEST_VALUE))[0], -WIDEST_VALUE)

    def test_missing_comes_before_wrong(self):
        for outside in (WIDEST_VALUE + 1, -WIDEST_VALUE - 1, HIGHEST, LOWEST):
            self.assertEqual(after_begin(sample(0, outside)), [-2])
            self.assertEqual(after_begin(series(), sample(1, outside), sample(WORD, outside)), [0, -2, -2])

    def test_largest_and_smallest(self):
        asked = [sample(WORD, HIGHEST), sample(WORD, LOWEST), sample(0, LOWEST), sample(0, HIGHEST)]
        self.assertEqual(after_begin(series(), *asked), [0, -2, -2, -22, -22])

    def test_refused_is_not_measured(self):
        self.assertEqual(shown(sample(0, WIDEST_VALUE + 1), sample(1, 5)), [None, None, None, None, 0, None])
        self.assertEqual(shown(sample(0, 7), sample(0, -WIDEST_VALUE - 1), sample(1, 5)), [7, 7, 7, 7, 1, 0])

    def test_each_series_apart(self):
        made = [series(), series(), rule(what=3, window=SPAN), sample(0, 3), sample(1, 40), sample(0, 5)]
        self.assertEqual(rows(*made, value(0, 0), value(0, 1))[-2:], [[1, 8], [1, 40]])

    def test_of_any_kind(self):
        made = [series(kind=31), rule(kind=0, what=4), sample(0, 5)]
        self.assertEqual(last(*made, value(0, 0)), [1, 1])


class Newest(unittest.TestCase):
    def test_63_and_64_count_all(self):
        self.assertEqual(shown(*[sample(0, k) for k in range(63)]), [62, 0, 62, sum(range(63)), 63, 62])
        self.assertEqual(shown(*[sample(0, k) for k in range(64)]), [63, 0, 63, sum(range(64)), 64, 63])

    def test_the_65th_puts_out_the_first(self):
        self.assertEqual(shown(*[sample(0, k) for k in range(65)]), [64, 1, 64, sum(range(1, 65)), 64, 63])

    def test_later_ones_put_out_the_oldest(self):
        given = shown(*[sample(0, -k) for k in range(200)])
        self.assertEqual(given, [-199, -199, -136, -sum(range(136, 200)), 64, -63])

    def test_the_65th_at_later_times(self):
        calls = [call for k in range(66) for call in (tick(k), sample(0, k * k))]
        squares = [k * k for k in range(2, 66)]
        self.assertEqual(shown(*calls), [65 * 65, 4, 65 * 65, sum(squares), 64, 65 * 65 - 4])

    def test_refused_puts_out_none(self):
        full = [sample(0, k) for k in range(64)]
        self.assertEqual(shown(*full, *[sample(0, WIDEST_VALUE + 1)] * 3), [63, 0, 63, sum(range(64)), 64, 63])

    def test_each_series_has_its_own_64(self):
        made = [series(), series(), rule(what=4, window=SPAN), *[sample(0, 1)] * 70, *[sample(1, 1)] * 3]
        self.assertEqual(rows(*made, value(0, 0), value(0, 1))[-2:], [[1, 64], [1, 3]])

    def test_put_out_ones_do_not_come_back(self):
        # The newest 64 lie at time 10 and leave the window; the older one at 9 was put out by them.
        calls = [tick(9), sample(0, 5), tick(10), *[sample(0, 6)] * 64]
        made = [series(), rule(what=4, window=5), *calls]
        self.assertEqual(last(*made, tick(14), value(0, 0)), [1, 64])
        self.assertEqual(last(*made, tick(15), value(0, 0)), [1, 0])


class Measured(unittest.TestCase):
    def test_at_the_time_that_is_now(self):
        made = [series(), rule(what=4, window=3), tick(10), sample(0, 5)]
        self.assertEqual(last(*made, tick(12), value(0, 0)), [1, 1])
        self.assertEqual(last(*made, tick(13), value(0, 0)), [1, 0])

    def test_at_0_ahead_of_the_first_tick(self):
        made = [series(), rule(what=4, window=3), sample(0, 5)]
        self.assertEqual(last(*made, tick(2), value(0, 0)), [1, 1])
        self.assertEqual(last(*made, tick(3), value(0, 0)), [1, 0])

    def test_several_at_the_same_now(self):
        calls = [sample(0, 4), sample(0, -9), sample(0, 4), sample(0, 1)]
        self.assertEqual(shown(*calls), [1, -9, 4, 0, 4, -3])
        self.assertEqual(shown(tick(7), *calls), [1, -9, 4, 0, 4, -3])

    def test_several_at_the_same_now_over_ticks_at_that_time(self):
        self.assertEqual(shown(tick(7), sample(0, 4), tick(7), sample(0, 2), tick(7)), [2, 2, 4, 6, 2, -2])

    def test_alike_ones_count_each(self):
        self.assertEqual(shown(*[sample(0, 3)] * 5), [3, 3, 3, 15, 5, 0])

    def test_a_refused_tick_sets_no_time(self):
        made = [series(), rule(what=4, window=3), tick(10), tick(9), sample(0, 5), tick(12), value(0, 0)]
        self.assertEqual(last(*made), [1, 1])


if __name__ == "__main__":
    unittest.main()
