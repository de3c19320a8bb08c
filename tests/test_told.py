"""What is told at a tick: what differs, once the wait is over, and again; b of what holds."""

import unittest

from line import SPAN, lamp, off, on, rule, sample, series, silence, tick, told

NEW = [(0, 0, [(0, 0)], [])]
OVER = [(0, 0, [], [(0, 0)])]
AGAIN = [(0, 1, [], [])]
ONE = [series(), lamp()]
TWO = [series(), series(), lamp()]


def ticks(*times):
    return [tick(t) for t in times]


class Once(unittest.TestCase):
    def test_new_and_over(self):
        self.assertEqual(told(*ONE, on(), *ticks(1, 2, 3), off(), *ticks(4, 5, 6)), [NEW, [], [], OVER, [], []])

    def test_new_again(self):
        self.assertEqual(told(*ONE, on(), tick(1), off(), tick(2), on(), tick(3)), [NEW, OVER, NEW])

    def test_several_times_at_one_time(self):
        self.assertEqual(told(*ONE, on(), tick(1), off(), tick(1), on(), tick(1)), [NEW, OVER, NEW])

    def test_nothing_where_nothing_is_seen(self):
        self.assertEqual(told(*ONE, *ticks(0, 1, 100), off(), *ticks(101, 102)), [[]] * 5)

    def test_new_beside_what_was_told(self):
        given = told(*TWO, on(1), tick(1), on(0), tick(2), off(1), tick(3))
        self.assertEqual(given, [[(0, 0, [(0, 1)], [])], [(0, 0, [(0, 0)], [])], [(0, 0, [], [(0, 1)])]])

    def test_new_and_over_at_once(self):
        given = told(*TWO, on(1), tick(1), on(0), off(1), tick(2), off(0), on(1), tick(3))
        self.assertEqual(given, [[(0, 0, [(0, 1)], [])], [(0, 0, [(0, 0)], [(0, 1)])], [(0, 0, [(0, 1)], [(0, 0)])]])


class Order(unittest.TestCase):
    def test_by_rules_then_series(self):
        made = [series()] * 3 + [lamp()] * 2 + [on(2), on(0), on(1)]
        pairs = [(0, 0), (0, 1), (0, 2), (1, 0), (1, 1), (1, 2)]
        self.assertEqual(told(*made, tick(1)), [[(0, 0, pairs, [])]])

    def test_by_rules_then_series_where_they_fired_one_after_another(self):
        made = [series()] * 3 + [lamp(hold=9), lamp(hold=5), lamp(hold=1)]
        steps = [on(2), tick(0), on(0), tick(1), on(1), *ticks(2, 20)]
        given = told(*made, *steps, wait=SPAN)
        self.assertEqual(given, [[], [(0, 0, [(2, 2)], [])], [], []])
        given = told(*made, silence(till=20), *steps)
        pairs = [(rule, series) for rule in range(3) for series in range(3)]
        self.assertEqual(given, [[], [], [], [(0, 0, pairs, [])]])

    def test_over_by_rules_then_series(self):
        made = [series()] * 3 + [lamp()] * 2 + [on(2), on(0), on(1), tick(1), off(1), off(2), off(0)]
        pairs = [(0, 0), (0, 1), (0, 2), (1, 0), (1, 1), (1, 2)]
        self.assertEqual(told(*made, tick(2))[1], [(0, 0, [], pairs)])

    def test_over_by_rules_then_series_where_they_were_told_one_after_another(self):
        made = [series()] * 3 + [lamp()] * 2
        given = told(*made, on(1), tick(1), on(2), tick(2), on(0), tick(3), off(2), off(0), tick(4))
        self.assertEqual(given[3], [(0, 0, [], [(0, 0), (0, 2), (1, 0), (1, 2)])])

    def test_new_and_over_each_by_rules_then_series(self):
        made = [series()] * 4 + [lamp()] * 2 + [on(3), on(1), tick(1), on(2), on(0), off(1), off(3)]
        given = told(*made, tick(2))[1]
        self.assertEqual(given, [(0, 0, [(0, 0), (0, 2), (1, 0), (1, 2)], [(0, 1), (0, 3), (1, 1), (1, 3)])])

    def test_numbers_of_two_figures(self):
        made = [series()] * 12 + [lamp()] * 12 + [on(k) for k in range(12)]
        self.assertEqual(told(*made, tick(1))[0][0][2], [(rule, series) for rule in range(12) for series in range(12)])

    def test_groups_by_their_numbers(self):
        made = [series(group=group) for group in (9, 2, 15, 0, 10)] + [lamp()] + [on(k) for k in range(5)]
        given = told(*made, tick(1))[0]
        self.assertEqual(given, [(0, 0, [(0, 3)], []), (2, 0, [(0, 1)], []), (9, 0, [(0, 0)], []),
                                 (10, 0, [(0, 4)], []), (15, 0, [(0, 2)], [])])

    def test_groups_of_different_notes(self):
        made = [series(group=group) for group in (3, 2, 1)] + [lamp()]
        given = told(*made, on(1), on(2), tick(1), on(0), off(1), tick(11), again=10)
        self.assertEqual(given[1], [(1, 1, [], []), (2, 0, [], [(0, 1)]), (3, 0, [(0, 0)], [])])


class Wait(unittest.TestCase):
    def test_reached_exactly_and_one_short_of_it(self):
        given = told(*ONE, on(), tick(5), off(), *ticks(6, 14, 15, 16), wait=10)
        self.assertEqual(given, [NEW, [], [], OVER, []])

    def test_passed(self):
        self.assertEqual(told(*ONE, on(), tick(5), off(), tick(14), tick(400), wait=10), [NEW, [], OVER])

    def test_of_1(self):
        self.assertEqual(told(*ONE, on(), tick(5), off(), tick(5), tick(6), wait=1), [NEW, [], OVER])

    def test_of_0(self):
        self.assertEqual(told(*ONE, on(), tick(5), off(), tick(5), wait=0), [NEW, OVER])

    def test_longest(self):
        given = told(*ONE, tick(7), on(), tick(8), off(), *ticks(8 + SPAN - 1, 8 + SPAN), wait=SPAN)
        self.assertEqual(given, [[], NEW, [], OVER])

    def test_the_first_time_there_is_none(self):
        for t in (0, 1, 9):
            self.assertEqual(told(*ONE, on(), tick(t), wait=10), [NEW])
            self.assertEqual(told(*ONE, on(), tick(t), wait=SPAN), [NEW])

    def test_ticks_that_told_nothing_do_not_count(self):
        self.assertEqual(told(*ONE, *ticks(0, 1, 2), on(), tick(3), wait=10), [[], [], [], NEW])

    def test_begins_anew_with_each_time(self):
        given = told(*ONE, on(), tick(0), off(), tick(10), on(), *ticks(11, 19, 20), wait=10)
        self.assertEqual(given, [NEW, OVER, [], [], NEW])

    def test_went_and_came_within_it(self):
        given = told(*ONE, on(), tick(0), off(), tick(3), on(), *ticks(6, 10, 20), wait=10)
        self.assertEqual(given, [NEW, [], [], [], []])

    def test_came_and_went_within_it(self):
        given = told(*TWO, on(0), tick(0), on(1), tick(3), off(1), *ticks(6, 10, 20), wait=10)
        self.assertEqual(given, [NEW, [], [], [], []])

    def test_what_differs_as_it_is_over_is_told(self):
        made = [series()] * 4 + [lamp()]
        steps = [on(0), tick(0), on(1), tick(2), off(0), on(2), tick(4), off(1), on(3), tick(9), off(3), tick(10)]
        given = told(*made, *steps, wait=10)
        self.assertEqual(given, [NEW, [], [], [], [(0, 0, [(0, 2)], [(0, 0)])]])

    def test_of_each_group_apart(self):
        made = [series(group=1), series(group=2), lamp()]
        given = told(*made, on(0), tick(0), on(1), tick(5), off(0), off(1), *ticks(9, 10, 14, 15), wait=10)
        self.assertEqual(given, [
            [(1, 0, [(0, 0)], [])], [(2, 0, [(0, 1)], [])], [], [(1, 0, [], [(0, 0)])], [], [(2, 0, [], [(0, 1)])],
        ])


class Again(unittest.TestCase):
    def test_0_is_never(self):
        self.assertEqual(told(*ONE, on(), *ticks(0, 1, 100, SPAN - 1), again=0), [NEW, [], [], []])

    def test_reached_exactly_and_one_short_of_it(self):
        given = told(*ONE, on(), *ticks(1, 10, 11, 12, 20, 21, 30), again=10)
        self.assertEqual(given, [NEW, [], AGAIN, [], [], AGAIN, []])

    def test_passed(self):
        given = told(*ONE, on(), *ticks(1, 40, 49, 50), again=10)
        self.assertEqual(given, [NEW, AGAIN, [], AGAIN])

    def test_of_1(self):
        self.assertEqual(told(*ONE, on(), *ticks(1, 1, 2, 3), again=1), [NEW, [], AGAIN, AGAIN])

    def test_longest(self):
        given = told(*ONE, tick(7), on(), tick(8), on(), *ticks(8 + SPAN - 1, 8 + SPAN), again=SPAN)
        self.assertEqual(given, [[], NEW, [], AGAIN])

    def test_nothing_is_not_told_again(self):
        given = told(*ONE, *ticks(0, 50), on(), tick(100), off(), *ticks(101, 111, 200), again=10)
        self.assertEqual(given, [[], [], NEW, OVER, [], []])

    def test_counts_from_what_was_told_last(self):
        given = told(*TWO, on(0), tick(0), on(1), *ticks(5, 10, 14, 15), again=10)
        self.assertEqual(given, [NEW, [(0, 0, [(0, 1)], [])], [], [], AGAIN])

    def test_a_reminder_counts_for_wait(self):
        given = told(*ONE, on(), *ticks(0, 10), off(), *ticks(11, 19, 20), wait=10, again=10)
        self.assertEqual(given, [NEW, AGAIN, [], [], OVER])

    def test_a_reminder_does_not_ask_for_the_wait(self):
        given = told(*ONE, on(), *ticks(0, 4, 5, 9, 10), off(), *ticks(11, 19, 20), wait=10, again=5)
        self.assertEqual(given, [NEW, [], AGAIN, [], AGAIN, [], [], OVER])

    def test_what_differs_is_not_told_again_within_the_wait(self):
        given = told(*TWO, on(0), tick(0), on(1), *ticks(5, 9, 10), wait=10, again=5)
        self.assertEqual(given, [NEW, [], [], [(0, 0, [(0, 1)], [])]])

    def test_what_is_the_same_once_more_is_told_again(self):
        given = told(*TWO, on(0), tick(0), on(1), tick(5), off(1), *ticks(6, 7), wait=10, again=5)
        self.assertEqual(given, [NEW, [], AGAIN, []])

    def test_what_differs_is_told_ahead_of_a_reminder(self):
        given = told(*TWO, on(0), tick(0), on(1), tick(10), wait=10, again=10)
        self.assertEqual(given, [NEW, [(0, 0, [(0, 1)], [])]])

    def test_what_is_silenced_is_not_told_again(self):
        given = told(*ONE, on(), silence(start=5, till=100), *ticks(0, 5, 15, 50, 99, 100, 110), again=10)
        self.assertEqual(given, [NEW, OVER, [], [], [], NEW, AGAIN])

    def test_of_each_group_apart(self):
        made = [series(group=1), series(group=2), lamp()]
        given = told(*made, on(0), tick(0), on(1), *ticks(5, 10, 15, 20, 25), again=10)
        first = [(1, 1, [], [])]
        second = [(2, 1, [], [])]
        self.assertEqual(given[2:], [first, second, first, second])

    def test_of_groups_at_once(self):
        made = [series(group=9), series(group=4), lamp(), on(0), on(1)]
        self.assertEqual(told(*made, *ticks(0, 10), again=10)[1], [(4, 1, [], []), (9, 1, [], [])])


class KeptForGood(unittest.TestCase):
    def test_nothing_that_lasts(self):
        # However often it flickers within the wait, what lasts is told as the wait is over.
        steps = []
        for t in range(1, 10):
            steps.extend([off(1) if t % 2 == 0 else on(1), tick(t)])
        given = told(*TWO, on(0), tick(0), *steps, tick(10), wait=10)
        self.assertEqual(given, [NEW] + [[]] * 9 + [[(0, 0, [(0, 1)], [])]])

    def test_without_a_value_it_stays_told(self):
        made = [series(), rule(window=2), sample(0, 5)]
        self.assertEqual(told(*made, *ticks(1, 2, 3), again=2), [NEW, [], AGAIN])


if __name__ == "__main__":
    unittest.main()
