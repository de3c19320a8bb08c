"""Promise 5: tick."""

import unittest

from line import LAST_TIME, LONG, after_begin, lamp, note, off, on, phase, rows, rule, sample, series, tick, value


class Tick(unittest.TestCase):
    def test_at_0_ahead_of_all(self):
        self.assertEqual(after_begin(tick(0), tick(0)), [0, 0])

    def test_beside_now(self):
        self.assertEqual(after_begin(tick(10), tick(9), tick(10), tick(11), tick(10)), [0, -22, 0, 0, -22])

    def test_before_now_by_far(self):
        self.assertEqual(after_begin(tick(10), tick(0), tick(10)), [0, -22, 0])

    def test_at_its_edge(self):
        self.assertEqual(after_begin(tick(LAST_TIME), tick(LAST_TIME), tick(LAST_TIME - 1)), [0, 0, -22])
        self.assertEqual(after_begin(tick(LAST_TIME + 1), tick(LAST_TIME - 1)), [-22, 0])

    def test_largest(self):
        self.assertEqual(after_begin(tick(LONG), tick(0)), [-22, 0])

    def test_answers_how_many_groups_are_told(self):
        for many in (0, 1, 2, 15, 16):
            made = [series(group=group) for group in range(16)] + [lamp()] + [on(k) for k in range(many)]
            self.assertEqual(after_begin(*made, tick(1))[-1], many)

    def test_several_pairs_of_one_group_are_told_at_once(self):
        made = [series(group=3)] * 5 + [lamp()] * 2 + [on(k) for k in range(5)]
        self.assertEqual(after_begin(*made, tick(1))[-1], 1)

    def test_without_rules_or_series(self):
        self.assertEqual(after_begin(series(), on(), tick(1), tick(2)), [0, 0, 0, 0])
        self.assertEqual(after_begin(lamp(), tick(1), tick(2)), [0, 0, 0])


class Refused(unittest.TestCase):
    def test_changes_nothing(self):
        made = [series(), series(group=1), lamp(), lamp(hold=5), on(0), tick(10), off(0), on(1)]
        asked = [note(0), note(1), phase(0, 0), phase(0, 1), phase(1, 0), value(0, 0), value(0, 1)]
        plain = rows(*made, *asked, tick(10), note(0), note(1))
        for t in (0, 9, LAST_TIME + 1, LONG):
            given = rows(*made, tick(t), *asked, tick(t), tick(10), note(0), note(1))
            self.assertEqual(given[8], [-22])
            self.assertEqual(given[16], [-22])
            self.assertEqual(given[9:16] + given[17:], plain[8:])

    def test_what_was_told_stands(self):
        given = rows(series(group=7), lamp(), on(), tick(10), tick(9), note(0), tick(LAST_TIME + 1), note(0), note(1))
        self.assertEqual(given[3:], [[1], [-22], [1, 7, 0, 1, 0, 0, 0], [-22], [1, 7, 0, 1, 0, 0, 0], [0]])

    def test_now_stands(self):
        made = [series(), rule(what=4, window=5), tick(10), sample(0, 1)]
        given = rows(*made, tick(LAST_TIME + 1), value(0, 0), tick(14), value(0, 0), tick(13), tick(15), value(0, 0))
        self.assertEqual(given[4:], [[-22], [1, 1], [1], [1, 1], [-22], [1], [1, 0]])


class Now(unittest.TestCase):
    def test_begins_at_0(self):
        made = [series(), rule(what=4, window=1), sample(0, 1)]
        given = rows(*made, value(), tick(0), value(), tick(1), value())
        self.assertEqual(given[3::2], [[1, 1], [1, 1], [1, 0]])

    def test_a_tick_at_the_same_time_knows_what_was_measured_since(self):
        given = rows(series(), lamp(), tick(5), on(), phase(), tick(5), phase(), off(), phase(), tick(5), phase())
        self.assertEqual(given[4:], [[0], [1], [2, 5], [0], [2, 5], [1], [0]])

    def test_at_the_last_time(self):
        given = rows(series(), lamp(), tick(LAST_TIME - 1), on(), tick(LAST_TIME), phase(), value())
        self.assertEqual(given[4:], [[1], [2, LAST_TIME], [1, 1]])


if __name__ == "__main__":
    unittest.main()
