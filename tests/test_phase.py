"""Promise 7: phase; when it's so and over, what is known of a rule and a series, and a of what holds."""

import unittest

from line import LAST_TIME, SPAN, WIDEST, WIDEST_VALUE, WORD, begin, end, lamp, last, off, on, phase, rows, rule, sample
from line import series, silence, tick


def phases(made, *steps):
    """The phase of rule 0 and series 0 behind each tick of the steps, which are times and calls."""
    asked = []
    for step in steps:
        asked.extend([tick(step), phase()] if isinstance(step, int) else [step])
    given = rows(*made, *asked)[len(made):]
    return [row for call, row in zip(asked, given) if call == phase()]


class Phase(unittest.TestCase):
    def test_no_such_rule_or_series(self):
        self.assertEqual(rows(phase(0, 0)), [[-2]])
        self.assertEqual(last(series(), phase(0, 0)), [-2])
        self.assertEqual(last(rule(), phase(0, 0)), [-2])

    def test_rules_and_series_at_their_edges(self):
        made = [series(), series(), series(), rule(), rule()]
        asked = [phase(1, 2), phase(2, 1), phase(1, 3), phase(2, 3), phase(2, 0), phase(0, 3)]
        self.assertEqual(rows(*made, *asked)[5:], [[0], [-2], [-2], [-2], [-2], [-2]])

    def test_the_most_rules_and_series(self):
        made = [series()] * 64 + [lamp()] * 32 + [on(63), tick(4)]
        self.assertEqual(rows(*made, phase(31, 63), phase(32, 63), phase(31, 64), phase(31, 62))[98:],
                         [[2, 4], [-2], [-2], [0]])

    def test_largest(self):
        asked = [phase(WORD, WORD), phase(WORD, 0), phase(0, WORD), phase(0, 0)]
        self.assertEqual(rows(series(), rule(), *asked)[2:], [[-2], [-2], [-2], [0]])

    def test_nothing_known(self):
        self.assertEqual(rows(series(), lamp(), phase(), on(), phase(), tick(0), phase())[2::2], [[0], [0], [2, 0]])

    def test_each_phase_and_since_when(self):
        made = [series(), lamp(hold=5)]
        self.assertEqual(phases(made, 1, on(), 2, 4, 7, 9, off(), 10), [[0], [1, 2], [1, 2], [2, 7], [2, 7], [0]])

    def test_a_series_that_is_not_of_the_rules_kind(self):
        made = [series(kind=1), series(kind=2), lamp(kind=2), lamp(kind=1), on(0), on(1), tick(3)]
        given = rows(*made, phase(0, 0), phase(0, 1), phase(1, 0), phase(1, 1))
        self.assertEqual(given[7:], [[0], [2, 3], [2, 3], [0]])

    def test_since_0(self):
        self.assertEqual(phases([series(), lamp(hold=1), on()], 0, 0), [[1, 0], [1, 0]])
        self.assertEqual(phases([series(), lamp(), on()], 0, 0), [[2, 0], [2, 0]])

    def test_only_ticks_make_known(self):
        made = [series(), lamp(), tick(5), on()]
        self.assertEqual(last(*made, phase()), [0])
        self.assertEqual(last(*made, tick(6), off(), phase()), [2, 6])

    def test_asking_changes_nothing(self):
        given = rows(series(), lamp(hold=2), on(), tick(1), phase(), phase(), tick(3), phase(), phase())
        self.assertEqual(given[4:], [[1, 1], [1, 1], [1], [2, 3], [2, 3]])


class SoAndOver(unittest.TestCase):
    def fires_at(self, one, **parts):
        return phases([series(), rule(window=SPAN, **parts), sample(0, one)], 1) == [[2, 1]]

    def ends_at(self, first, one, **parts):
        made = [series(), rule(window=SPAN, **parts), sample(0, first)]
        given = phases(made, 1, sample(0, one), 2)
        self.assertEqual(given[0], [2, 1])
        return given[1] == [0]

    def test_so_above_1(self):
        for bound in (-100, -1, 0, 1, 100):
            self.assertFalse(self.fires_at(bound, above=1, bound=bound, over=bound))
            self.assertTrue(self.fires_at(bound + 1, above=1, bound=bound, over=bound))
            self.assertFalse(self.fires_at(bound - 1, above=1, bound=bound, over=bound - 5))

    def test_so_above_0(self):
        for bound in (-100, -1, 0, 1, 100):
            self.assertFalse(self.fires_at(bound, above=0, bound=bound, over=bound))
            self.assertTrue(self.fires_at(bound - 1, above=0, bound=bound, over=bound))
            self.assertFalse(self.fires_at(bound + 1, above=0, bound=bound, over=bound + 5))

    def test_over_above_1(self):
        for over in (-20, -1, 0, 1, 20):
            for bound in (over, over + 1, over + 9):
                self.assertTrue(self.ends_at(bound + 1, over, above=1, bound=bound, over=over))
                self.assertTrue(self.ends_at(bound + 1, over - 1, above=1, bound=bound, over=over))
                self.assertFalse(self.ends_at(bound + 1, over + 1, above=1, bound=bound, over=over))

    def test_over_above_0(self):
        for over in (-20, -1, 0, 1, 20):
            for bound in (over, over - 1, over - 9):
                self.assertTrue(self.ends_at(bound - 1, over, above=0, bound=bound, over=over))
                self.assertTrue(self.ends_at(bound - 1, over + 1, above=0, bound=bound, over=over))
                self.assertFalse(self.ends_at(bound - 1, over - 1, above=0, bound=bound, over=over))

    def test_at_bound_while_it_fires(self):
        self.assertFalse(self.ends_at(11, 10, above=1, bound=10, over=5))
        self.assertTrue(self.ends_at(11, 10, above=1, bound=10, over=10))
        self.assertFalse(self.ends_at(9, 10, above=0, bound=10, over=15))
        self.assertTrue(self.ends_at(9, 10, above=0, bound=10, over=10))

    def test_widest(self):
        self.assertFalse(self.fires_at(WIDEST_VALUE, above=1, bound=WIDEST, over=WIDEST))
        self.assertTrue(self.fires_at(-WIDEST_VALUE, above=1, bound=-WIDEST, over=-WIDEST))
        self.assertTrue(self.fires_at(WIDEST_VALUE, above=0, bound=WIDEST, over=WIDEST))
        self.assertFalse(self.fires_at(-WIDEST_VALUE, above=0, bound=-WIDEST, over=-WIDEST))
        self.assertFalse(self.ends_at(1, -WIDEST_VALUE, above=1, bound=0, over=-WIDEST))
        self.assertFalse(self.ends_at(-1, WIDEST_VALUE, above=0, bound=0, over=WIDEST))

    def test_each_of_what_is_held_against_bound(self):
        values = [sample(0, one) for one in (4, -9, 8, 2)]
        for what, seen in enumerate((2, -9, 8, 5, 4, -2)):
            made = [series(), rule(what=what, window=SPAN, bound=seen - 1, over=seen - 1), *values]
            self.assertEqual(phases(made, 1), [[2, 1]], what)
            made = [series(), rule(what=what, window=SPAN, bound=seen, over=seen), *values]
            self.assertEqual(phases(made, 1), [[0]], what)

    def test_without_a_value_neither_so_nor_over(self):
        for what in (0, 1, 2, 3, 5):
            for above, bound in ((1, -WIDEST), (0, WIDEST), (1, WIDEST), (0, -WIDEST)):
                made = [series(), rule(what=what, above=above, window=2, bound=bound, over=bound)]
                self.assertEqual(phases(made, 1, 2), [[0], [0]], (what, above, bound))

    def test_none_are_a_value_for_how_many(self):
        made = [series(), rule(what=4, above=0, window=2, bound=1, over=1)]
        self.assertEqual(phases(made, 1, on(), 2, 3, 4), [[2, 1], [0], [2, 3], [2, 3]])


class Hold(unittest.TestCase):
    def test_0_fires_at_once(self):
        self.assertEqual(phases([series(), lamp(hold=0), on()], 7, 8), [[2, 7], [2, 7]])

    def test_1_is_not_at_once(self):
        self.assertEqual(phases([series(), lamp(hold=1), on()], 7, 7, 8, 9), [[1, 7], [1, 7], [2, 8], [2, 8]])

    def test_reached_exactly_and_one_short(self):
        for hold in (1, 2, 10, SPAN):
            made = [series(), lamp(hold=hold), tick(100), on()]
            # The last value has to lie in the window all the time, so it's measured again.
            given = phases(made, 101, on(), 101 + hold - 1, on(), 101 + hold)
            self.assertEqual(given[1:], [[1, 101], [2, 101 + hold]])

    def test_passed_at_one_tick(self):
        self.assertEqual(phases([series(), lamp(hold=10), on()], 1, 500), [[1, 1], [2, 500]])

    def test_begins_at_the_tick_and_not_at_the_measurement(self):
        made = [series(), lamp(hold=10), tick(1), on()]
        self.assertEqual(phases(made, 5, 11, 14, 15), [[1, 5], [1, 5], [1, 5], [2, 15]])

    def test_not_so_ahead_of_it(self):
        made = [series(), lamp(hold=10), on()]
        self.assertEqual(phases(made, 1, off(), 5, on(), 6, 11, 15, 16), [[1, 1], [0], [1, 6], [1, 6], [1, 6], [2, 16]])

    def test_not_so_just_as_it_is_reached(self):
        self.assertEqual(phases([series(), lamp(hold=10), on()], 1, off(), 11, on(), 12), [[1, 1], [0], [1, 12]])

    def test_not_so_between_two_ticks_is_not_looked_at(self):
        self.assertEqual(phases([series(), lamp(hold=10), on()], 1, off(), on(), 11), [[1, 1], [2, 11]])

    def test_neither_so_nor_over_ahead_of_it(self):
        made = [series(), rule(window=SPAN, bound=10, over=5, hold=10), sample(0, 11)]
        self.assertEqual(phases(made, 1, sample(0, 8), 11), [[1, 1], [0]])

    def test_no_value_ahead_of_it(self):
        made = [series(), rule(window=3, hold=10), on()]
        self.assertEqual(phases(made, 1, 2, 3, on(), 4, 13), [[1, 1], [1, 1], [0], [1, 4], [0]])

    def test_at_the_last_time(self):
        made = [series(), lamp(hold=SPAN), tick(LAST_TIME - SPAN), on()]
        self.assertEqual(phases(made, LAST_TIME - SPAN, LAST_TIME - 1, on(), LAST_TIME),
                         [[1, LAST_TIME - SPAN], [1, LAST_TIME - SPAN], [2, LAST_TIME]])


class Fires(unittest.TestCase):
    def test_goes_on_while_neither_so_nor_over(self):
        made = [series(), rule(window=SPAN, bound=10, over=5), sample(0, 11)]
        given = phases(made, 1, sample(0, 10), 2, sample(0, 6), 3, sample(0, 5), 4, sample(0, 6), 5, sample(0, 10), 6)
        self.assertEqual(given, [[2, 1], [2, 1], [2, 1], [0], [0], [0]])

    def test_goes_on_without_a_value(self):
        made = [series(), rule(window=3), on()]
        self.assertEqual(phases(made, 1, 3, 500, off(), 501, on(), 502), [[2, 1], [2, 1], [2, 1], [0], [2, 502]])

    def test_over_and_so_again_at_one_tick_after_another(self):
        made = [series(), lamp(), on()]
        given = phases(made, 1, off(), 2, on(), 3, off(), 4, on(), 4, off(), 4)
        self.assertEqual(given, [[2, 1], [0], [2, 3], [0], [2, 4], [0]])

    def test_over_begins_hold_anew(self):
        made = [series(), lamp(hold=2), on()]
        given = phases(made, 1, 3, off(), 4, on(), 5, 6, 7)
        self.assertEqual(given, [[1, 1], [2, 3], [0], [1, 5], [1, 5], [2, 7]])

    def test_so_again_while_it_fires_keeps_its_time(self):
        made = [series(), rule(window=SPAN, bound=10, over=5), sample(0, 11)]
        self.assertEqual(phases(made, 1, sample(0, 8), 2, sample(0, 12), 3), [[2, 1], [2, 1], [2, 1]])

    def test_over_and_so_again_between_two_ticks_is_not_looked_at(self):
        self.assertEqual(phases([series(), lamp(), on()], 1, off(), on(), 2), [[2, 1], [2, 1]])

    def test_silences_do_not_touch_it(self):
        steps = [1, on(), 2, 4, 7, off(), 8, on(), 9, 20]
        plain = phases([series(), lamp(hold=3)], *steps)
        self.assertEqual(plain, [[0], [1, 2], [1, 2], [2, 7], [0], [1, 9], [2, 20]])
        for start, till in ((0, 100), (2, 3), (3, 8), (7, 9)):
            made = [series(), lamp(hold=3), silence(start=start, till=till)]
            self.assertEqual(phases(made, *steps), plain)
            self.assertEqual(phases(made, *steps[:6], end(0), *steps[6:]), plain)


class LateComers(unittest.TestCase):
    def test_a_rule_behind_the_first_tick(self):
        given = rows(series(), on(), tick(5), lamp(hold=2), phase(), tick(6), phase(), tick(8), phase())
        self.assertEqual(given[4::2], [[0], [1, 6], [2, 8]])

    def test_a_rule_looks_at_what_was_measured_before_it(self):
        made = [series(), sample(0, 3), tick(5), sample(0, 4), rule(what=3, window=SPAN, bound=6, over=6)]
        self.assertEqual(last(*made, tick(6), phase()), [2, 6])

    def test_a_series_behind_the_first_tick(self):
        given = rows(lamp(hold=2), tick(5), series(), phase(), on(), tick(6), phase(), tick(8), phase())
        self.assertEqual([given[3], given[6], given[8]], [[0], [1, 6], [2, 8]])

    def test_those_that_were_there_go_on(self):
        made = [series(), lamp(hold=5), on(), tick(1), series(), lamp(hold=0), on(1), tick(6)]
        self.assertEqual(rows(*made, phase(0, 0), phase(0, 1), phase(1, 0), phase(1, 1))[-4:],
                         [[2, 6], [1, 6], [2, 6], [2, 6]])

    def test_each_pair_apart(self):
        made = [series(), series(), lamp(), lamp(hold=4), on(0), tick(1), on(1), tick(3), off(0), tick(5), tick(7)]
        given = rows(*made, phase(0, 0), phase(0, 1), phase(1, 0), phase(1, 1))
        self.assertEqual(given[-4:], [[0], [2, 3], [0], [2, 7]])

    def test_a_series_behind_begin_takes_nothing_over(self):
        given = rows(series(), lamp(), on(), tick(9), phase(), begin(), series(), lamp(), phase(), tick(1), phase())
        self.assertEqual([given[4], given[8], given[10]], [[2, 9], [0], [0]])


if __name__ == "__main__":
    unittest.main()
