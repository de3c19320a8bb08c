"""Promise 3: silence and end."""

import unittest

from line import ANY, LAST_TIME, LONG, WORD, after_begin, end, rule, series, silence


class Silence(unittest.TestCase):
    def taken(self, **parts):
        self.assertEqual(after_begin(silence(**parts)), [0], parts)

    def refused(self, **parts):
        self.assertEqual(after_begin(silence(**parts), end(0), silence()), [-22, -2, 0], parts)

    def test_numbered_as_they_come(self):
        given = after_begin(rule(), series(), silence(rule=0), silence(group=3), silence())
        self.assertEqual(given, [0, 0, 0, 1, 2])

    def test_any_rule_where_there_is_none(self):
        self.taken(rule=ANY)

    def test_a_rule_that_there_is_not(self):
        self.refused(rule=0)
        self.refused(rule=254)
        self.refused(rule=256)
        self.refused(rule=WORD)

    def test_rules_at_their_edge(self):
        given = after_begin(rule(), silence(rule=0), silence(rule=1), rule(), silence(rule=1), silence(rule=2))
        self.assertEqual(given, [0, 0, -22, 1, 1, -22])

    def test_rules_at_their_edge_where_there_are_32(self):
        asked = [silence(rule=31), silence(rule=32), silence(rule=254), silence(rule=ANY), silence(rule=256)]
        self.assertEqual(after_begin(*[rule()] * 32, *asked)[32:], [0, -22, -22, 1, -22])

    def test_series_are_no_rules(self):
        self.assertEqual(after_begin(series(), series(), silence(rule=0), silence(rule=1)), [0, 1, -22, -22])

    def test_group_at_its_edges(self):
        self.taken(group=0)
        self.taken(group=15)
        self.refused(group=16)
        self.refused(group=254)
        self.taken(group=ANY)
        self.refused(group=256)
        self.refused(group=WORD)

    def test_a_group_without_series(self):
        self.assertEqual(after_begin(series(group=1), silence(group=2)), [0, 0])

    def test_till_beside_start(self):
        for start in (1, 1000, LAST_TIME - 1):
            self.taken(start=start, till=start + 1)
            self.refused(start=start, till=start)
            self.refused(start=start, till=start - 1)
            self.refused(start=start, till=0)

    def test_from_the_first_time(self):
        self.refused(start=0, till=0)
        self.taken(start=0, till=1)

    def test_till_at_its_edge(self):
        self.taken(start=0, till=LAST_TIME - 1)
        self.taken(start=0, till=LAST_TIME)
        self.refused(start=0, till=LAST_TIME + 1)
        self.refused(start=LAST_TIME, till=LAST_TIME)
        self.refused(start=LAST_TIME, till=LAST_TIME + 1)

    def test_largest(self):
        self.refused(start=0, till=LONG)
        self.refused(start=LONG, till=0)
        self.refused(start=LONG, till=LAST_TIME)
        self.refused(start=LONG, till=LONG)
        self.refused(start=LONG - 1, till=LONG)
        self.refused(rule=WORD, group=WORD, start=LONG, till=LONG)

    def test_smallest(self):
        given = after_begin(silence(0, 0, 0, 0), rule(), silence(0, 0, 0, 0), silence(0, 0, 0, 1))
        self.assertEqual(given, [-22, 0, -22, 0])

    def test_at_most_32(self):
        self.assertEqual(after_begin(*[silence()] * 34), list(range(32)) + [-28, -28])

    def test_refused_ones_do_not_count_among_32(self):
        given = after_begin(*[silence(group=16)] * 40, *[silence()] * 33)
        self.assertEqual(given, [-22] * 40 + list(range(32)) + [-28])

    def test_ended_ones_count_among_32(self):
        given = after_begin(*[silence()] * 32, end(0), end(17), end(31), silence(), silence())
        self.assertEqual(given, list(range(32)) + [0, 0, 0, -28, -28])

    def test_ended_at_once_they_count_among_32(self):
        given = after_begin(*[call for k in range(32) for call in (silence(), end(k))], silence())
        self.assertEqual(given, [number for k in range(32) for number in (k, 0)] + [-28])

    def test_wrong_comes_before_full(self):
        wrong = [
            silence(rule=1), silence(group=16), silence(start=1, till=1), silence(start=2, till=1),
            silence(till=LAST_TIME + 1),
        ]
        given = after_begin(rule(), *[silence(rule=0)] * 32, *wrong, silence(rule=0))
        self.assertEqual(given[33:], [-22] * len(wrong) + [-28])


class End(unittest.TestCase):
    def test_one_that_there_is(self):
        self.assertEqual(after_begin(silence(), end(0)), [0, 0])

    def test_the_same_once_more(self):
        self.assertEqual(after_begin(silence(), end(0), end(0), end(0)), [0, 0, -2, -2])

    def test_one_that_there_is_not(self):
        self.assertEqual(after_begin(end(0), end(WORD)), [-2, -2])
        self.assertEqual(after_begin(silence(), end(1), end(WORD), end(0)), [0, -2, -2, 0])

    def test_rules_and_series_are_no_silences(self):
        self.assertEqual(after_begin(rule(), series(), end(0)), [0, 0, -2])

    def test_each_alone(self):
        given = after_begin(silence(), silence(), silence(), end(1), end(1), end(2), end(0), end(0), end(3))
        self.assertEqual(given, [0, 1, 2, 0, -2, 0, 0, -2, -2])

    def test_the_last_of_32(self):
        given = after_begin(*[silence()] * 33, end(31), end(32), end(31))
        self.assertEqual(given[32:], [-28, 0, -2, -2])

    def test_its_number_does_not_come_again(self):
        given = after_begin(silence(), end(0), silence(), end(0), end(1))
        self.assertEqual(given, [0, 0, 1, -2, 0])

    def test_refused_ahead_does_not_end_what_comes(self):
        self.assertEqual(after_begin(end(0), silence(), end(0)), [-2, 0, 0])


if __name__ == "__main__":
    unittest.main()
