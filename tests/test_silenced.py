"""What a silence hides: by its rule and group, from its start on, before its till, unless it's ended."""

import unittest

from line import ANY, LAST_TIME, begin, end, lamp, last, off, on, phase, rows, series, silence, tick, told

# Two rules that fire for two series, in the groups 3 and 5: all four pairs have one level.
MADE = [series(group=3), series(group=5), lamp(), lamp(), on(0), on(1)]


def seen_with(*silences):
    """The pairs that are told at time 10, of all groups."""
    notes = told(*MADE, *silences, tick(10))[0]
    return [pair for note in notes for pair in note[2]]


class For(unittest.TestCase):
    def hidden(self, expected, **parts):
        shown = seen_with(silence(start=10, till=11, **parts))
        self.assertEqual([pair for pair in [(0, 0), (1, 0), (0, 1), (1, 1)] if pair not in shown], expected)
        self.assertEqual(len(shown) + len(expected), 4)

    def test_none(self):
        self.assertEqual(seen_with(), [(0, 0), (1, 0), (0, 1), (1, 1)])

    def test_a_rule_and_a_group(self):
        self.hidden([(0, 0)], rule=0, group=3)
        self.hidden([(1, 1)], rule=1, group=5)

    def test_a_rule_and_any_group(self):
        self.hidden([(0, 0), (0, 1)], rule=0, group=ANY)
        self.hidden([(1, 0), (1, 1)], rule=1, group=ANY)

    def test_any_rule_and_a_group(self):
        self.hidden([(0, 0), (1, 0)], rule=ANY, group=3)
        self.hidden([(0, 1), (1, 1)], rule=ANY, group=5)

    def test_any_rule_and_any_group(self):
        self.hidden([(0, 0), (1, 0), (0, 1), (1, 1)], rule=ANY, group=ANY)

    def test_other_groups(self):
        for group in (0, 1, 4, 15):
            self.hidden([], rule=ANY, group=group)
            self.hidden([], rule=0, group=group)

    def test_groups_are_no_series(self):
        self.hidden([], rule=0, group=0)
        self.hidden([], rule=0, group=1)

    def test_the_last_group_and_rule(self):
        made = [series(group=15)] + [lamp()] * 32 + [on()]
        given = told(*made, silence(rule=31, group=15, start=0, till=2), tick(1), tick(2))
        self.assertEqual(given, [[(15, 0, [(k, 0) for k in range(31)], [])], [(15, 0, [(31, 0)], [])]])

    def test_several_together(self):
        both = [silence(rule=0, group=3, start=0, till=20), silence(rule=1, group=5, start=0, till=20)]
        self.assertEqual(seen_with(*both), [(1, 0), (0, 1)])

    def test_a_rule_that_comes_later_is_any(self):
        given = told(series(), silence(till=5), lamp(), on(), tick(1), tick(5))
        self.assertEqual(given, [[], [(0, 0, [(0, 0)], [])]])


class Times(unittest.TestCase):
    def shown_at(self, t, start, till):
        return len(told(series(), lamp(), on(), silence(start=start, till=till), tick(t))[0]) == 1

    def test_beside_start(self):
        self.assertTrue(self.shown_at(9, 10, 20))
        self.assertFalse(self.shown_at(10, 10, 20))
        self.assertFalse(self.shown_at(11, 10, 20))

    def test_beside_till(self):
        self.assertFalse(self.shown_at(19, 10, 20))
        self.assertTrue(self.shown_at(20, 10, 20))
        self.assertTrue(self.shown_at(21, 10, 20))

    def test_of_one_time_alone(self):
        self.assertEqual([self.shown_at(t, 10, 11) for t in (9, 10, 11)], [True, False, True])

    def test_at_0(self):
        self.assertFalse(self.shown_at(0, 0, 1))
        self.assertTrue(self.shown_at(1, 0, 1))

    def test_at_the_last_time(self):
        made = [series(), lamp(), silence(start=0, till=LAST_TIME), tick(LAST_TIME - 1), on(), tick(LAST_TIME - 1)]
        self.assertEqual(told(*made, tick(LAST_TIME)), [[], [], [(0, 0, [(0, 0)], [])]])

    def test_that_lies_behind_already(self):
        given = told(series(), lamp(), on(), tick(10), silence(start=0, till=10), tick(10), tick(11))
        self.assertEqual(given[1:], [[], []])

    def test_told_as_over_and_new_again(self):
        given = told(series(), lamp(), on(), silence(start=10, till=20), *[tick(t) for t in (9, 10, 19, 20, 21)])
        self.assertEqual(given, [[(0, 0, [(0, 0)], [])], [(0, 0, [], [(0, 0)])], [], [(0, 0, [(0, 0)], [])], []])


class Ended(unittest.TestCase):
    def test_before_it_begins(self):
        given = told(series(), lamp(), on(), silence(start=10, till=20), tick(9), end(0), tick(10), tick(15))
        self.assertEqual(given, [[(0, 0, [(0, 0)], [])], [], []])

    def test_within_it(self):
        given = told(series(), lamp(), on(), silence(start=10, till=20), tick(10), tick(12), end(0), tick(12), tick(20))
        self.assertEqual(given, [[], [], [(0, 0, [(0, 0)], [])], []])

    def test_after_it(self):
        given = told(series(), lamp(), on(), silence(start=10, till=20), tick(19), tick(20), end(0), tick(21))
        self.assertEqual(given, [[], [(0, 0, [(0, 0)], [])], []])

    def test_one_of_two(self):
        made = [series(), lamp(), on(), silence(till=20), silence(till=20)]
        self.assertEqual(told(*made, end(0), tick(1), end(1), tick(2)), [[], [(0, 0, [(0, 0)], [])]])
        self.assertEqual(told(*made, end(1), tick(1), end(0), tick(2)), [[], [(0, 0, [(0, 0)], [])]])

    def test_a_refused_end_ends_none(self):
        self.assertEqual(told(series(), lamp(), on(), silence(till=20), end(1), tick(1)), [[]])

    def test_a_refused_silence_hides_none(self):
        given = told(series(), lamp(), on(), silence(rule=1, till=20), silence(start=1, till=LAST_TIME + 1), tick(1))
        self.assertEqual(given, [[(0, 0, [(0, 0)], [])]])

    def test_begin_leaves_none(self):
        given = told(silence(till=20), begin(), series(), lamp(), on(), tick(1))
        self.assertEqual(given, [[(0, 0, [(0, 0)], [])]])


class OnlyHides(unittest.TestCase):
    def test_it_neither_begins_nor_ends_what_fires(self):
        made = [series(), lamp(hold=4), silence(start=3, till=9), on()]
        asked = [call for t in (2, 3, 6, 9) for call in (tick(t), phase())]
        self.assertEqual(rows(*made, *asked)[5::2], [[1, 2], [1, 2], [2, 6], [2, 6]])
        self.assertEqual(last(*made, *asked, off(), tick(10), phase()), [0])
        self.assertEqual(last(*made, *asked[:6], off(), tick(8), phase()), [0])

    def test_what_came_and_went_within_it_is_never_told(self):
        given = told(series(), lamp(), silence(till=20), on(), tick(5), off(), tick(6), tick(20), tick(21))
        self.assertEqual(given, [[], [], [], []])

    def test_what_is_over_within_it_is_told_as_over_once(self):
        given = told(series(), lamp(), silence(start=5, till=20), on(), tick(4), tick(5), off(), tick(6), tick(20))
        self.assertEqual(given, [[(0, 0, [(0, 0)], [])], [(0, 0, [], [(0, 0)])], [], []])

    def test_it_does_not_hurry_the_wait(self):
        given = told(series(), lamp(), silence(start=5, till=20), on(), tick(4), tick(5), tick(13), tick(14), wait=10)
        self.assertEqual(given, [[(0, 0, [(0, 0)], [])], [], [], [(0, 0, [], [(0, 0)])]])

    def test_one_shorter_than_the_wait_is_not_told(self):
        made = [series(), lamp(), silence(start=5, till=9), on()]
        given = told(*made, *[tick(t) for t in (4, 5, 8, 9, 14, 20)], wait=10)
        self.assertEqual(given, [[(0, 0, [(0, 0)], [])], [], [], [], [], []])


if __name__ == "__main__":
    unittest.main()
