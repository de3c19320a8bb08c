"""Promise 1: begin."""

import unittest

from line import SPAN, WORD, after_begin, begin, end, numbers, rule, series, silence


class Begin(unittest.TestCase):
    def test_answers_zero(self):
        self.assertEqual(numbers(begin(60, 3600)), [0])

    def test_smallest(self):
        self.assertEqual(numbers(begin(0, 0)), [0])

    def test_wait_at_its_edge(self):
        self.assertEqual(numbers(begin(SPAN - 1, 0)), [0])
        self.assertEqual(numbers(begin(SPAN, 0)), [0])
        self.assertEqual(numbers(begin(SPAN + 1, 0)), [-22])

    def test_again_at_its_edge(self):
        self.assertEqual(numbers(begin(0, SPAN - 1)), [0])
        self.assertEqual(numbers(begin(0, SPAN)), [0])
        self.assertEqual(numbers(begin(0, SPAN + 1)), [-22])

    def test_both_at_their_edges(self):
        self.assertEqual(numbers(begin(SPAN, SPAN)), [0])
        self.assertEqual(numbers(begin(SPAN + 1, SPAN + 1)), [-22])

    def test_largest(self):
        self.assertEqual(numbers(begin(WORD, 0)), [-22])
        self.assertEqual(numbers(begin(0, WORD)), [-22])
        self.assertEqual(numbers(begin(WORD, WORD)), [-22])

    def test_refused_ahead_of_the_first(self):
        given = numbers(begin(SPAN + 1, 0), begin(0, SPAN + 1), begin(), series(), rule(), silence(), end())
        self.assertEqual(given, [-22, -22, 0, 0, 0, 0, 0])

    def test_refused_behind_changes_nothing(self):
        made = [series(), series(), rule(), silence(), silence(), end(0)]
        for refused in (begin(SPAN + 1, 0), begin(0, SPAN + 1), begin(WORD, WORD)):
            given = after_begin(*made, refused, series(), rule(), silence(rule=1), silence(), end(0), end(1))
            self.assertEqual(given, [0, 1, 0, 0, 1, 0, -22, 2, 1, 2, 3, -2, 0])

    def test_refused_behind_leaves_what_is_full(self):
        made = [series()] * 64 + [rule()] * 32 + [silence()] * 32
        given = after_begin(*made, begin(SPAN + 1, 0), series(), rule(), silence())
        self.assertEqual(given[-4:], [-22, -28, -28, -28])


class BeginAgain(unittest.TestCase):
    def test_leaves_no_series(self):
        self.assertEqual(after_begin(series(), series(), begin(), series()), [0, 1, 0, 0])

    def test_leaves_no_rules(self):
        given = after_begin(rule(), rule(), begin(), silence(rule=0), silence(rule=1), rule(), silence(rule=0))
        self.assertEqual(given, [0, 1, 0, -22, -22, 0, 0])

    def test_leaves_no_silences(self):
        given = after_begin(silence(), silence(), end(1), begin(), end(0), end(1), silence(), end(0))
        self.assertEqual(given, [0, 1, 0, 0, -2, -2, 0, 0])

    def test_makes_room_for_all(self):
        full = [series()] * 64 + [rule()] * 32 + [silence()] * 32
        numbered = list(range(64)) + list(range(32)) + list(range(32))
        given = after_begin(*full, begin(), *full, series(), rule(), silence())
        self.assertEqual(given, numbered + [0] + numbered + [-28, -28, -28])

    def test_twice_with_nothing_between(self):
        self.assertEqual(numbers(begin(), begin(SPAN, SPAN), begin(), series()), [0, 0, 0, 0])


if __name__ == "__main__":
    unittest.main()
