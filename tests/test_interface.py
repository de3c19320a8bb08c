"""The interface: toldonce.watch.answers(calls)."""

import contextlib
import io
import unittest

from line import WORD, begin, end, line, rule, series, silence
from toldonce.watch import answers

MIXED = line(
    begin(WORD, 0), begin(60, 3600), series(1, 2), series(32, 2), rule(level=4), rule(), silence(rule=0), end(0),
    end(0), silence(rule=1), begin(0, WORD), series(), begin(), series(),
)
MIXED_ANSWERS = [1, -22, 1, 0, 1, 0, 1, -22, 1, -22, 1, 0, 1, 0, 1, 0, 1, -2, 1, -22, 1, -22, 1, 1, 1, 0, 1, 0]


class Unchanging(list):
    """A list that fails when it is changed, for a while too."""

    def refuse(self, *parts, **named):
        raise AssertionError("the list that was handed in is changed")

    append = extend = insert = pop = remove = clear = sort = reverse = refuse
    __setitem__ = __delitem__ = __iadd__ = __imul__ = refuse


class Interface(unittest.TestCase):
    def test_each_call_alone(self):
        self.assertEqual(answers([0, 0, 0]), [1, 0])
        self.assertEqual(answers([0, 0, 0, 1, 31, 15]), [1, 0, 1, 0])
        self.assertEqual(answers([0, 0, 0, 2, 31, 5, 0, 1, -5, 5, 0, 3]), [1, 0, 1, 0])
        self.assertEqual(answers([0, 0, 0, 3, 255, 255, 7, 8]), [1, 0, 1, 0])
        self.assertEqual(answers([0, 0, 0, 4, 0]), [1, 0, 1, -2])

    def test_the_order_of_a_rules_numbers(self):
        ahead = [0, 0, 0]
        self.assertEqual(answers(ahead + [2, 31, 5, 1, 16777216, 9, 8, 0, 3]), [1, 0, 1, 0])
        self.assertEqual(answers(ahead + [2, 31, 5, 0, 16777216, 8, 9, 16777216, 3]), [1, 0, 1, 0])
        self.assertEqual(answers(ahead + [2, 31, 5, 1, 0, 9, 8, 16777216, 3]), [1, 0, 1, -22])
        self.assertEqual(answers(ahead + [2, 5, 31, 1, 1, 9, 8, 0, 3]), [1, 0, 1, -22])
        self.assertEqual(answers(ahead + [2, 31, 5, 1, 1, 9, 8, 3, 4]), [1, 0, 1, -22])

    def test_refused_alone(self):
        self.assertEqual(answers([0, WORD, WORD]), [1, -22])

    def test_calls_in_order(self):
        self.assertEqual(answers(list(MIXED)), MIXED_ANSWERS)

    def test_answers_are_a_list_of_whole_numbers(self):
        given = answers(list(MIXED))
        self.assertIs(type(given), list)
        self.assertEqual({type(number) for number in given}, {int})

    def test_handed_in_is_as_it_was(self):
        handed = list(MIXED)
        answers(handed)
        self.assertEqual(handed, MIXED)

    def test_handed_in_is_not_changed_for_a_while_either(self):
        self.assertEqual(answers(Unchanging(MIXED)), MIXED_ANSWERS)

    def test_handed_in_twice_is_answered_alike(self):
        handed = list(MIXED)
        self.assertEqual(answers(handed), MIXED_ANSWERS)
        self.assertEqual(answers(handed), MIXED_ANSWERS)

    def test_nothing_is_kept(self):
        full = line(begin(), *[series()] * 64, *[rule()] * 32, *[silence()] * 32, end(0))
        first = answers(full)
        self.assertEqual(answers(line(begin(), end(0), silence(rule=0), series())), [1, 0, 1, -2, 1, -22, 1, 0])
        self.assertEqual(answers(full), first)

    def test_answers_given_back_are_not_shared(self):
        first = answers(list(MIXED))
        first.clear()
        self.assertEqual(answers(list(MIXED)), MIXED_ANSWERS)

    def test_2000_calls(self):
        given = answers(line(begin(), *[series()] * 1999))
        numbered = [0] + list(range(64)) + [-28] * 1935
        self.assertEqual(given, [part for number in numbered for part in (1, number)])

    def test_nearly_16000_numbers(self):
        calls = line(begin(), *[rule()] * 1777)
        self.assertLessEqual(len(calls), 16000)
        numbered = [0] + list(range(32)) + [-28] * 1745
        self.assertEqual(answers(calls), [part for number in numbered for part in (1, number)])

    def test_prints_nothing(self):
        printed = io.StringIO()
        with contextlib.redirect_stdout(printed), contextlib.redirect_stderr(printed):
            answers(list(MIXED))
        self.assertEqual(printed.getvalue(), "")


if __name__ == "__main__":
    unittest.main()
