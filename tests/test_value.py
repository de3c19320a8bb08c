"""Promise 8: value; the window, what a rule looks at in it, and c of what holds."""

import itertools
import unittest

from line import LAST_TIME, SPAN, WIDEST_VALUE, WORD, last, rows, rule, sample, series, tick, value


def looked_at(*calls, window=SPAN):
    """What each of 0 to 5 looks at in series 0 behind such calls; None where it has no value."""
    asked = [value(what, 0) for what in range(6)]
    given = rows(series(), *[rule(what=what, window=window) for what in range(6)], *calls, *asked)[-6:]
    if any(row != [0] and (row[0] != 1 or len(row) != 2) for row in given):
        raise AssertionError(f"not values: {given}")
    return [None if row == [0] else row[1] for row in given]


class Value(unittest.TestCase):
    def test_no_such_rule_or_series(self):
        self.assertEqual(rows(value(0, 0)), [[-2]])
        self.assertEqual(last(series(), value(0, 0)), [-2])
        self.assertEqual(last(rule(), value(0, 0)), [-2])

    def test_rules_and_series_at_their_edges(self):
        made = [series(), series(), series(), rule(what=4), rule(what=4)]
        asked = [value(1, 2), value(2, 1), value(1, 3), value(2, 3), value(2, 0), value(0, 3)]
        self.assertEqual(rows(*made, *asked)[5:], [[1, 0], [-2], [-2], [-2], [-2], [-2]])

    def test_the_most_rules_and_series(self):
        made = [series()] * 64 + [rule(what=4)] * 32
        asked = [value(31, 63), value(32, 63), value(31, 64)]
        self.assertEqual(rows(*made, *asked)[96:], [[1, 0], [-2], [-2]])

    def test_largest(self):
        made = [series(), rule(what=4)]
        asked = [value(WORD, WORD), value(WORD, 0), value(0, WORD), value(0, 0)]
        self.assertEqual(rows(*made, *asked)[2:], [[-2], [-2], [-2], [1, 0]])

    def test_no_value(self):
        self.assertEqual(last(series(), rule(), value()), [0])

    def test_a_value_of_0_is_one(self):
        self.assertEqual(last(series(), rule(), sample(0, 0), value()), [1, 0])

    def test_a_value_below_0(self):
        self.assertEqual(last(series(), rule(), sample(0, -7), value()), [1, -7])

    def test_a_series_that_is_not_of_the_rules_kind(self):
        made = [series(kind=1), rule(kind=2, what=3), rule(kind=2, what=4), value(0, 0), sample(0, 5), sample(0, -8)]
        given = rows(*made, value(0, 0), value(1, 0))
        self.assertEqual([given[3]] + given[-2:], [[0], [1, -3], [1, 2]])

    def test_now_later_than_the_last_measurement(self):
        made = [series(), rule(window=10), tick(5), sample(0, 3)]
        given = rows(*made, tick(14), value(), tick(15), value(), tick(100), value())
        self.assertEqual(given[5::2], [[1, 3], [0], [0]])

    def test_between_two_ticks(self):
        given = rows(series(), rule(), tick(5), value(), sample(0, 3), value(), sample(0, 4), value())
        self.assertEqual(given[3::2], [[0], [1, 3], [1, 4]])

    def test_ahead_of_the_first_tick(self):
        self.assertEqual(last(series(), rule(window=SPAN), sample(0, 3), value()), [1, 3])

    def test_whatever_is_known(self):
        fires = [series(), rule(window=2), tick(5), sample(0, 3), tick(6)]
        self.assertEqual(rows(*fires, value(), tick(7), value())[5::2], [[1, 3], [0]])

    def test_asking_changes_nothing(self):
        made = [series(), rule(window=3), sample(0, 3)]
        given = rows(*made, value(), value(), value(0, 1), value(1, 0), tick(1), value(), value())
        self.assertEqual(given[3:], [[1, 3], [1, 3], [-2], [-2], [1], [1, 3], [1, 3]])


class Window(unittest.TestCase):
    def test_just_at_the_time_less_window_and_just_later(self):
        for window in (1, 2, 7, 1000):
            made = [series(), rule(window=window), tick(1000), sample(0, 3)]
            self.assertEqual(last(*made, tick(1000 + window - 1), value()), [1, 3])
            self.assertEqual(last(*made, tick(1000 + window), value()), [0])

    def test_of_1_holds_this_time_alone(self):
        self.assertEqual(looked_at(tick(3), sample(0, 8), tick(4), sample(0, 5), window=1), [5, 5, 5, 5, 1, 0])

    def test_longer_than_now(self):
        self.assertEqual(looked_at(sample(0, 8), tick(4), sample(0, 5), window=5), [5, 5, 8, 13, 2, -3])

    def test_as_long_as_now(self):
        self.assertEqual(looked_at(sample(0, 8), tick(4), sample(0, 5), window=4), [5, 5, 5, 5, 1, 0])

    def test_at_0(self):
        self.assertEqual(looked_at(sample(0, 8), window=1), [8, 8, 8, 8, 1, 0])

    def test_longest(self):
        made = [series(), rule(window=SPAN), tick(20), sample(0, 3)]
        self.assertEqual(last(*made, tick(20 + SPAN - 1), value()), [1, 3])
        self.assertEqual(last(*made, tick(20 + SPAN), value()), [0])

    def test_longest_at_the_last_time(self):
        made = [series(), rule(window=SPAN), tick(LAST_TIME - SPAN), sample(0, 3), tick(LAST_TIME - SPAN + 1)]
        self.assertEqual(last(*made, tick(LAST_TIME), value()), [0])
        self.assertEqual(last(*made, sample(0, 4), tick(LAST_TIME), value()), [1, 4])

    def test_moves_over_many(self):
        times = [1, 1, 2, 5, 5, 5, 9, 30]
        calls = [call for k, t in enumerate(times) for call in (tick(t), sample(0, 2 ** k))]
        for window in (1, 4, 5, 21, 22, 25, 26, 28, 29, 30):
            within = [2 ** k for k, t in enumerate(times) if t > 30 - window]
            expected = [within[-1], within[0], within[-1], sum(within), len(within), within[-1] - within[0]]
            self.assertEqual(looked_at(*calls, window=window), expected, window)

    def test_each_rule_has_its_own(self):
        made = [series(), rule(what=4, window=1), rule(what=4, window=2), rule(what=4, window=3)]
        calls = [sample(0, 1), tick(1), sample(0, 1), tick(2), sample(0, 1)]
        self.assertEqual(rows(*made, *calls, value(0), value(1), value(2))[-3:], [[1, 1], [1, 2], [1, 3]])

    def test_the_first_is_the_first_in_the_window(self):
        calls = [sample(0, 100), tick(1), sample(0, 40), tick(2), sample(0, 50)]
        self.assertEqual(looked_at(*calls, window=3)[5], -50)
        self.assertEqual(looked_at(*calls, window=2)[5], 10)
        self.assertEqual(looked_at(*calls, window=1)[5], 0)


class What(unittest.TestCase):
    def test_with_none(self):
        self.assertEqual(looked_at(), [None, None, None, None, 0, None])
        self.assertEqual(looked_at(tick(7)), [None, None, None, None, 0, None])
        self.assertEqual(looked_at(sample(0, 5), tick(7), window=7), [None, None, None, None, 0, None])

    def test_with_one(self):
        for one in (5, 1, 0, -1, -5, WIDEST_VALUE, -WIDEST_VALUE):
            self.assertEqual(looked_at(sample(0, one)), [one, one, one, one, 1, 0])

    def test_with_several(self):
        self.assertEqual(looked_at(*[sample(0, k) for k in (4, 9, 2, 7)]), [7, 2, 9, 22, 4, 3])

    def test_with_several_below_0(self):
        self.assertEqual(looked_at(*[sample(0, k) for k in (-4, -9, -2, -7)]), [-7, -9, -2, -22, 4, -3])

    def test_with_some_below_0(self):
        self.assertEqual(looked_at(*[sample(0, k) for k in (4, -9, 0, 2)]), [2, -9, 4, -3, 4, -2])

    def test_last_less_first_has_its_sign(self):
        self.assertEqual(looked_at(sample(0, -3), sample(0, 8))[5], 11)
        self.assertEqual(looked_at(sample(0, 8), sample(0, -3))[5], -11)

    def test_largest_and_smallest(self):
        high = [sample(0, WIDEST_VALUE)] * 64
        low = [sample(0, -WIDEST_VALUE)] * 64
        self.assertEqual(looked_at(*high), [WIDEST_VALUE, WIDEST_VALUE, WIDEST_VALUE, 64 * WIDEST_VALUE, 64, 0])
        self.assertEqual(looked_at(*low), [-WIDEST_VALUE, -WIDEST_VALUE, -WIDEST_VALUE, -64 * WIDEST_VALUE, 64, 0])
        self.assertEqual(looked_at(low[0], high[0])[5], 2 * WIDEST_VALUE)
        self.assertEqual(looked_at(high[0], low[0])[5], -2 * WIDEST_VALUE)


class Orders(unittest.TestCase):
    """c: in whatever order a window's values came, the least, the greatest, the sum and how many are the same."""

    def test_all_orders_at_one_time(self):
        for values in itertools.permutations((3, -8, 0, 5, 5)):
            self.assertEqual(looked_at(*[sample(0, one) for one in values])[1:5], [-8, 5, 5, 5])

    def test_all_orders_over_several_times(self):
        for values in itertools.permutations((30, -80, 7, -1)):
            calls = [call for t, one in enumerate(values) for call in (tick(10 + t), sample(0, one))]
            self.assertEqual(looked_at(sample(0, 999), *calls, window=5)[1:5], [-80, 30, -44, 4])

    def test_turned_round_and_sorted(self):
        values = [(k * 37) % 64 - 20 for k in range(64)]
        for turned in (values, values[::-1], sorted(values), sorted(values, reverse=True)):
            self.assertEqual(looked_at(*[sample(0, one) for one in turned])[1:5], [-20, 43, sum(values), 64])


if __name__ == "__main__":
    unittest.main()
