"""Promise 1: begin."""

import unittest

from line import SPAN, WORD, after_begin, ask, begin, end, lamp, note, numbers, off, on, phase, rows, rule, sample
from line import series, silence, tick, told, value

# Something fires, is told, and is told again at 20.
RUN = [series(group=3), lamp(), on(), tick(10), tick(20)]
ASKED = [note(0), note(1), phase(0, 0), value(0, 0), sample(0, 1), tick(19), tick(20), note(0)]


class Begin(unittest.TestCase):
    def test_answers_zero(self):
        self.assertEqual(numbers(begin(60, 3600)), [0])

    def test_smallest(self):
        self.assertEqual(numbers(begin(0, 0)), [0])

    def test_wait_at_its_edge(self):
        self.assertEqual(numbers(begin(SPAN - 1, 0)), [0])
        self.assertEqual(numbers(begin(SPAN, 0)), [0])
        self.assertEqual(numbers(begin(SPAN + 1, 0)), [-22])

    def test_again_at_its_edge(self):
        self.assertEqual(numbers(begin(0, SPAN - 1)), [0])
        self.assertEqual(numbers(begin(0, SPAN)), [0])
        self.assertEqual(numbers(begin(0, SPAN + 1)), [-22])

    def test_both_at_their_edges(self):
        self.assertEqual(numbers(begin(SPAN, SPAN)), [0])
        self.assertEqual(numbers(begin(SPAN + 1, SPAN + 1)), [-22])

    def test_largest(self):
        self.assertEqual(numbers(begin(WORD, 0)), [-22])
        self.assertEqual(numbers(begin(0, WORD)), [-22])
        self.assertEqual(numbers(begin(WORD, WORD)), [-22])

    def test_refused_ahead_of_the_first(self):
        given = numbers(begin(SPAN + 1, 0), begin(0, SPAN + 1), begin(), series(), rule(), silence(), end())
        self.assertEqual(given, [-22, -22, 0, 0, 0, 0, 0])

    def test_refused_behind_changes_nothing(self):
        made = [series(), series(), rule(), silence(), silence(), end(0)]
        for refused in (begin(SPAN + 1, 0), begin(0, SPAN + 1), begin(WORD, WORD)):
            given = after_begin(*made, refused, series(), rule(), silence(rule=1), silence(), end(0), end(1))
            self.assertEqual(given, [0, 1, 0, 0, 1, 0, -22, 2, 1, 2, 3, -2, 0])

    def test_refused_behind_leaves_what_is_full(self):
        made = [series()] * 64 + [rule()] * 32 + [silence()] * 32
        given = after_begin(*made, begin(SPAN + 1, 0), series(), rule(), silence())
        self.assertEqual(given[-4:], [-22, -28, -28, -28])


class BeginAgain(unittest.TestCase):
    def test_leaves_no_series(self):
        self.assertEqual(after_begin(series(), series(), begin(), series()), [0, 1, 0, 0])

    def test_leaves_no_rules(self):
        given = after_begin(rule(), rule(), begin(), silence(rule=0), silence(rule=1), rule(), silence(rule=0))
        self.assertEqual(given, [0, 1, 0, -22, -22, 0, 0])

    def test_leaves_no_silences(self):
        given = after_begin(silence(), silence(), end(1), begin(), end(0), end(1), silence(), end(0))
        self.assertEqual(given, [0, 1, 0, 0, -2, -2, 0, 0])

    def test_makes_room_for_all(self):
        full = [series()] * 64 + [rule()] * 32 + [silence()] * 32
        numbered = list(range(64)) + list(range(32)) + list(range(32))
        given = after_begin(*full, begin(), *full, series(), rule(), silence())
        self.assertEqual(given, numbered + [0] + numbered + [-28, -28, -28])

    def test_twice_with_nothing_between(self):
        self.assertEqual(numbers(begin(), begin(SPAN, SPAN), begin(), series()), [0, 0, 0, 0])


class BeginAfterTicks(unittest.TestCase):
    def test_leaves_nothing(self):
        given = ask(begin(0, 10), *RUN, begin(0, 10), *ASKED)
        self.assertEqual(given[5], [1])
        self.assertEqual(given[6:], [[0], [0], [0], [-2], [-2], [-2], [0], [0], [0]])

    def test_leaves_nothing_told(self):
        self.assertEqual(ask(begin(), *RUN[:4], note(0), begin(), note(0))[5:], [[1, 3, 0, 1, 0, 0, 0], [0], [0]])

    def test_leaves_nothing_known_or_measured(self):
        given = ask(begin(), *RUN, begin(), series(group=3), lamp(), phase(), value(), tick(20), phase(), note(0))
        self.assertEqual(given[6:], [[0], [0], [0], [0], [0], [0], [0], [0]])

    def test_now_is_0(self):
        made = [tick(0), series(), rule(what=4, window=5), sample(0, 1)]
        given = ask(begin(), *RUN, begin(), *made, tick(4), value(), tick(5), value())
        self.assertEqual(given[7], [0])
        self.assertEqual([given[12], given[14]], [[1, 1], [1, 0]])

    def test_what_was_told_is_new_again_and_not_over(self):
        plain = told(*RUN)
        self.assertEqual(plain[0], [(3, 0, [(0, 0)], [])])
        self.assertEqual(told(*RUN, begin(), *RUN)[2:], plain)
        self.assertEqual(told(*RUN, begin(), tick(1)), plain + [[]])

    def test_the_wait_is_gone(self):
        given = told(*RUN[:4], begin(SPAN, 0), *RUN[:3], tick(11), wait=SPAN)
        self.assertEqual(given, [[(3, 0, [(0, 0)], [])], [(3, 0, [(0, 0)], [])]])

    def test_wait_and_again_are_those_of_the_last(self):
        calls = [*RUN[:3], tick(1), tick(5), off(), tick(6), tick(9)]
        short = told(begin(0, 4), *calls, wait=SPAN, again=SPAN)
        self.assertEqual(short, [[(3, 0, [(0, 0)], [])], [(3, 1, [], [])], [(3, 0, [], [(0, 0)])], []])
        long = told(begin(5, 0), *calls, wait=0, again=1)
        self.assertEqual(long, [[(3, 0, [(0, 0)], [])], [], [(3, 0, [], [(0, 0)])], []])

    def test_silences_are_gone(self):
        self.assertEqual(len(told(silence(till=100), *RUN[:3], begin(), *RUN[:4])[0]), 1)

    def test_the_first_one(self):
        self.assertEqual(rows(*ASKED), [[0], [0], [-2], [-2], [-2], [0], [0], [0]])


class RefusedAfterTicks(unittest.TestCase):
    def test_changes_nothing(self):
        plain = ask(begin(0, 10), *RUN, *ASKED)
        self.assertEqual(plain[6:], [[1, 3, 1, 0, 0], [0], [2, 10], [1, 1], [0], [-22], [0], [0]])
        for refused in (begin(SPAN + 1, 0), begin(0, SPAN + 1), begin(WORD, WORD)):
            given = ask(begin(0, 10), *RUN, refused, *ASKED)
            self.assertEqual(given[6], [-22])
            self.assertEqual(given[:6] + given[7:], plain)

    def test_wait_and_again_stand(self):
        for refused in (begin(0, SPAN + 1), begin(SPAN + 1, 1)):
            calls = [*RUN[:3], tick(1), refused, tick(10), tick(11), off(), tick(12), tick(16)]
            given = told(*calls, wait=5, again=10)
            self.assertEqual(given[1:], [[], [(3, 1, [], [])], [], [(3, 0, [], [(0, 0)])]])

    def test_ahead_of_the_first(self):
        given = ask(begin(SPAN + 1, 1), begin(3, 10), *RUN, off(), tick(22), tick(23), note(0))
        self.assertEqual(given[6:], [[1], [0], [0], [1], [1, 3, 0, 0, 1, 0, 0]])


if __name__ == "__main__":
    unittest.main()
