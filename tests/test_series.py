"""Promise 2: series."""

import unittest

from line import WORD, after_begin, series


class Series(unittest.TestCase):
    def test_numbered_as_they_come(self):
        self.assertEqual(after_begin(series(3, 7), series(3, 7), series(0, 0)), [0, 1, 2])

    def test_kind_at_its_edge(self):
        self.assertEqual(after_begin(series(kind=0), series(kind=31), series(kind=32)), [0, 1, -22])

    def test_group_at_its_edge(self):
        self.assertEqual(after_begin(series(group=0), series(group=15), series(group=16)), [0, 1, -22])

    def test_no_group_stands_for_any(self):
        self.assertEqual(after_begin(series(group=255)), [-22])

    def test_largest(self):
        given = after_begin(series(kind=WORD), series(group=WORD), series(WORD, WORD), series(31, 15))
        self.assertEqual(given, [-22, -22, -22, 0])

    def test_refused_takes_no_number(self):
        given = after_begin(series(), series(kind=32), series(), series(group=16), series())
        self.assertEqual(given, [0, -22, 1, -22, 2])

    def test_at_most_64(self):
        given = after_begin(*[series()] * 66)
        self.assertEqual(given, list(range(64)) + [-28, -28])

    def test_refused_ones_do_not_count_among_64(self):
        given = after_begin(*[series(kind=32)] * 70, *[series()] * 65)
        self.assertEqual(given, [-22] * 70 + list(range(64)) + [-28])

    def test_wrong_comes_before_full(self):
        given = after_begin(*[series()] * 64, series(kind=32), series(group=16), series(WORD, WORD), series())
        self.assertEqual(given[64:], [-22, -22, -22, -28])


if __name__ == "__main__":
    unittest.main()
