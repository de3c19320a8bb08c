"""Promise 6: note."""

import unittest

from line import WORD, begin, lamp, last, note, off, on, rows, series, tick


class Note(unittest.TestCase):
    def test_before_the_first_tick(self):
        self.assertEqual(rows(note(0), note(1), note(WORD)), [[0], [0], [0]])
        self.assertEqual(last(series(), lamp(), on(), note(0)), [0])

    def test_after_a_tick_at_which_nothing_was_told(self):
        self.assertEqual(rows(tick(1), note(0), note(1)), [[0], [0], [0]])
        self.assertEqual(rows(series(), lamp(), on(), tick(1), note(0), tick(2), note(0))[3:],
                         [[1], [1, 0, 0, 1, 0, 0, 0], [0], [0]])

    def test_at_the_last_and_just_behind_it(self):
        made = [series(group=group) for group in (4, 8, 12)] + [lamp(), on(0), on(1), on(2), tick(1)]
        given = rows(*made, note(0), note(1), note(2), note(3), note(4), note(WORD))[7:]
        notes = [[1, 4, 0, 1, 0, 0, 0], [1, 8, 0, 1, 0, 0, 1], [1, 12, 0, 1, 0, 0, 2]]
        self.assertEqual(given, [[3]] + notes + [[0], [0], [0]])

    def test_of_all_groups(self):
        made = [series(group=15 - k) for k in range(16)] + [lamp()] + [on(k) for k in range(16)]
        given = rows(*made, tick(1), *[note(k) for k in range(17)])[33:]
        self.assertEqual(given, [[16]] + [[1, k, 0, 1, 0, 0, 15 - k] for k in range(16)] + [[0]])

    def test_k_is_no_group(self):
        made = [series(group=5), lamp(), on(), tick(1)]
        self.assertEqual(rows(*made, note(0), note(5))[4:], [[1, 5, 0, 1, 0, 0, 0], [0]])

    def test_with_no_pair(self):
        self.assertEqual(last(series(group=5), lamp(), on(), tick(0), tick(10), note(0), again=10), [1, 5, 1, 0, 0])

    def test_with_new_ones_alone(self):
        made = [series(group=5), series(group=5), lamp(), lamp(), on(0), on(1), tick(1)]
        self.assertEqual(last(*made, note(0)), [1, 5, 0, 4, 0, 0, 0, 0, 1, 1, 0, 1, 1])

    def test_with_ones_over_alone(self):
        made = [series(group=5), series(group=5), lamp(), lamp(), on(0), on(1), tick(1), off(0), tick(2)]
        self.assertEqual(last(*made, note(0)), [1, 5, 0, 0, 2, 0, 0, 1, 0])

    def test_with_both(self):
        made = [series(group=5), series(group=5), series(group=5), lamp(), on(0), on(2), tick(1)]
        given = last(*made, off(0), on(1), off(2), tick(2), note(0))
        self.assertEqual(given, [1, 5, 0, 1, 2, 0, 1, 0, 0, 0, 2])

    def test_a_rule_then_a_series(self):
        made = [series(kind=1), series(kind=1), series(kind=0), lamp(kind=0), lamp(kind=1), on(0), on(1), on(2)]
        self.assertEqual(last(*made, tick(1), note(0)), [1, 0, 0, 3, 0, 0, 2, 1, 0, 1, 1])

    def test_stands_till_the_next_tick(self):
        made = [series(), lamp(), on(), tick(1)]
        between = [off(), series(), on(1), lamp(), [3, 255, 255, 0, 100], [4, 0], tick(0), begin(WORD, 0)]
        given = [row for call in between for row in rows(*made, call, note(0))[5:]]
        self.assertEqual(given, [[1, 0, 0, 1, 0, 0, 0]] * len(between))
        self.assertEqual(last(*made, *between, note(0)), [1, 0, 0, 1, 0, 0, 0])

    def test_asking_changes_nothing(self):
        made = [series(), lamp(), on(), tick(1)]
        given = rows(*made, note(0), note(1), note(0), note(0), tick(2), note(0))[4:]
        self.assertEqual(given, [[1, 0, 0, 1, 0, 0, 0], [0], [1, 0, 0, 1, 0, 0, 0], [1, 0, 0, 1, 0, 0, 0], [0], [0]])


if __name__ == "__main__":
    unittest.main()
