"""The interface: toldonce.watch.answers(calls)."""

import contextlib
import io
import unittest

from line import HIGHEST, LONG, LOWEST, WORD, ask, begin, end, lamp, line, note, off, on, phase, rule, sample, series
from line import silence, tick, value
from toldonce.watch import answers

MIXED = line(
    begin(WORD, 0), begin(60, 3600), series(1, 2), series(32, 2), rule(level=4), rule(), silence(rule=0), end(0),
    end(0), silence(rule=1), begin(0, WORD), series(), begin(), series(),
)
MIXED_ANSWERS = [1, -22, 1, 0, 1, 0, 1, -22, 1, -22, 1, 0, 1, 0, 1, 0, 1, -2, 1, -22, 1, -22, 1, 1, 1, 0, 1, 0]

TOLD = line(
    begin(0, 10), series(2, 7), lamp(kind=2, hold=5), value(0, 0), phase(0, 0), note(0), sample(0, 3), sample(1, 3),
    tick(1), phase(0, 0), tick(6), phase(0, 0), value(0, 0), note(0), note(1), tick(5), tick(16), note(0),
    sample(0, -4), tick(17), value(0, 0), note(0), phase(0, 0),
)
TOLD_ANSWERS = [
    1, 0, 1, 0, 1, 0, 1, 0, 1, 0, 1, 0, 1, 0, 1, -2,
    1, 0, 2, 1, 1, 1, 1, 2, 2, 6, 2, 1, 3, 7, 1, 7, 0, 1, 0, 0, 0, 1, 0, 1, -22, 1, 1, 5, 1, 7, 1, 0, 0,
    1, 0, 1, 1, 2, 1, -4, 7, 1, 7, 0, 0, 1, 0, 0, 1, 0,
]


class Unchanging(list):
    """A list that fails when it is changed, for a while too."""

    def refuse(self, *parts, **named):
        raise AssertionError("the list that was handed in is changed")

    append = extend = insert = pop = remove = clear = sort = reverse = refuse
    __setitem__ = __delitem__ = __iadd__ = __imul__ = refuse


class Interface(unittest.TestCase):
    def test_each_call_alone(self):
        self.assertEqual(answers([0, 0, 0]), [1, 0])
        self.assertEqual(answers([0, 0, 0, 1, 31, 15]), [1, 0, 1, 0])
        self.assertEqual(answers([0, 0, 0, 2, 31, 5, 0, 1, -5, 5, 0, 3]), [1, 0, 1, 0])
        self.assertEqual(answers([0, 0, 0, 3, 255, 255, 7, 8]), [1, 0, 1, 0])
        self.assertEqual(answers([0, 0, 0, 4, 0]), [1, 0, 1, -2])
        self.assertEqual(answers([0, 0, 0, 5, 0, -7]), [1, 0, 1, -2])
        self.assertEqual(answers([0, 0, 0, 6, 9]), [1, 0, 1, 0])
        self.assertEqual(answers([0, 0, 0, 7, 0]), [1, 0, 1, 0])
        self.assertEqual(answers([0, 0, 0, 8, 0, 0]), [1, 0, 1, -2])
        self.assertEqual(answers([0, 0, 0, 9, 0, 0]), [1, 0, 1, -2])

    def test_the_order_of_two_numbers(self):
        # One series and two rules, so that a rule and a series can be told apart.
        ahead = [0, 0, 0, 1, 0, 0, 2, 0, 0, 1, 9, 5, 5, 0, 0, 2, 0, 0, 1, 9, 5, 5, 0, 0]
        before = [1, 0] * 3 + [1, 1]
        self.assertEqual(answers(ahead + [5, 0, 1]), before + [1, 0])
        self.assertEqual(answers(ahead + [5, 1, 0]), before + [1, -2])
        self.assertEqual(answers(ahead + [8, 1, 0, 8, 0, 1]), before + [1, 0, 1, -2])
        self.assertEqual(answers(ahead + [9, 1, 0, 9, 0, 1]), before + [1, 0, 1, -2])

    def test_what_stands_behind_the_number(self):
        self.assertEqual(answers(list(TOLD)), TOLD_ANSWERS)

    def test_largest_and_smallest_of_each_call(self):
        calls = [
            begin(WORD, WORD), begin(), series(WORD, WORD), rule(WORD, WORD, WORD, WORD, HIGHEST, LOWEST, WORD, WORD),
            rule(0, 0, 0, 0, LOWEST, HIGHEST, 0, 0), silence(WORD, WORD, LONG, LONG), silence(0, 0, 0, 0), end(WORD),
            end(0), sample(WORD, HIGHEST), sample(0, LOWEST), tick(LONG), tick(0), note(WORD), note(0),
            phase(WORD, WORD), phase(0, 0), value(WORD, WORD), value(0, 0),
        ]
        expected = [-22, 0, -22, -22, -22, -22, -22, -2, -2, -2, -2, -22, 0, 0, 0, -2, -2, -2, -2]
        self.assertEqual(ask(*calls), [[number] for number in expected])

    def test_the_order_of_a_rules_numbers(self):
        ahead = [0, 0, 0]
        self.assertEqual(answers(ahead + [2, 31, 5, 1, 16777216, 9, 8, 0, 3]), [1, 0, 1, 0])
        self.assertEqual(answers(ahead + [2, 31, 5, 0, 16777216, 8, 9, 16777216, 3]), [1, 0, 1, 0])
        self.assertEqual(answers(ahead + [2, 31, 5, 1, 0, 9, 8, 16777216, 3]), [1, 0, 1, -22])
        self.assertEqual(answers(ahead + [2, 5, 31, 1, 1, 9, 8, 0, 3]), [1, 0, 1, -22])
        self.assertEqual(answers(ahead + [2, 31, 5, 1, 1, 9, 8, 3, 4]), [1, 0, 1, -22])

    def test_refused_alone(self):
        self.assertEqual(answers([0, WORD, WORD]), [1, -22])

    def test_calls_in_order(self):
        self.assertEqual(answers(list(MIXED)), MIXED_ANSWERS)

    def test_answers_are_a_list_of_whole_numbers(self):
        given = answers(list(MIXED))
        self.assertIs(type(given), list)
        self.assertEqual({type(number) for number in given}, {int})
        self.assertEqual({type(number) for number in answers(list(TOLD))}, {int})

    def test_handed_in_is_as_it_was(self):
        for calls in (MIXED, TOLD):
            handed = list(calls)
            answers(handed)
            self.assertEqual(handed, calls)

    def test_handed_in_is_not_changed_for_a_while_either(self):
        self.assertEqual(answers(Unchanging(MIXED)), MIXED_ANSWERS)
        self.assertEqual(answers(Unchanging(TOLD)), TOLD_ANSWERS)

    def test_handed_in_twice_is_answered_alike(self):
        for calls, expected in ((MIXED, MIXED_ANSWERS), (TOLD, TOLD_ANSWERS)):
            handed = list(calls)
            self.assertEqual(answers(handed), expected)
            self.assertEqual(answers(handed), expected)

    def test_nothing_is_kept(self):
        full = line(begin(), *[series()] * 64, *[rule()] * 32, *[silence()] * 32, end(0))
        first = answers(full)
        self.assertEqual(answers(line(begin(), end(0), silence(rule=0), series())), [1, 0, 1, -2, 1, -22, 1, 0])
        self.assertEqual(answers(full), first)

    def test_nothing_is_kept_of_what_was_told(self):
        # Were now, the wait or what was told kept, the second line would begin otherwise.
        first = line(begin(16777216, 0), series(), lamp(), on(), tick(1000))
        second = line(begin(), note(0), tick(0), series(), lamp(), phase(), value(), on(), tick(1), note(0))
        expected = [1, 0, 1, 0, 1, 0, 1, 0, 1, 0, 1, 0, 1, 0, 1, 0, 1, 1, 7, 1, 0, 0, 1, 0, 0, 0]
        self.assertEqual(answers(second), expected)
        answers(first)
        self.assertEqual(answers(second), expected)

    def test_answers_given_back_are_not_shared(self):
        first = answers(list(MIXED))
        first.clear()
        self.assertEqual(answers(list(MIXED)), MIXED_ANSWERS)

    def test_2000_calls(self):
        given = answers(line(begin(), *[series()] * 1999))
        numbered = [0] + list(range(64)) + [-28] * 1935
        self.assertEqual(given, [part for number in numbered for part in (1, number)])

    def test_nearly_16000_numbers(self):
        calls = line(begin(), *[rule()] * 1777)
        self.assertLessEqual(len(calls), 16000)
        numbered = [0] + list(range(32)) + [-28] * 1745
        self.assertEqual(answers(calls), [part for number in numbered for part in (1, number)])

    def test_16000_numbers(self):
        calls = line(begin(), *[rule()] * 1777, tick(1), tick(1))
        self.assertEqual(len(calls), 16000)
        numbered = [0] + list(range(32)) + [-28] * 1745 + [0, 0]
        self.assertEqual(answers(calls), [part for number in numbered for part in (1, number)])

    def test_2000_calls_of_ticks_and_samples(self):
        steps = [call for t in range(1, 665) for call in (on() if t % 2 else off(), tick(t), note(0))]
        calls = [begin(), series(), lamp(), *steps, tick(700), tick(700), tick(700), note(0), phase()]
        self.assertEqual(len(calls), 2000)
        new = [[0], [1], [1, 0, 0, 1, 0, 0, 0]]
        over = [[0], [1], [1, 0, 0, 0, 1, 0, 0]]
        self.assertEqual(ask(*calls), [[0]] * 3 + (new + over) * 332 + [[0]] * 5)

    def test_2000_ticks_with_all_series_and_rules(self):
        made = [series(group=k % 16) for k in range(64)] + [lamp(window=k + 1, what=k % 6) for k in range(32)]
        calls = [begin(), *made, *[tick(t) for t in range(1903)]]
        self.assertEqual(len(calls), 2000)
        self.assertEqual(ask(*calls)[97:], [[0]] * 1903)

    def test_prints_nothing(self):
        printed = io.StringIO()
        with contextlib.redirect_stdout(printed), contextlib.redirect_stderr(printed):
            answers(list(MIXED))
            answers(list(TOLD))
        self.assertEqual(printed.getvalue(), "")


class AllFire(unittest.TestCase):
    """64 series and 32 rules, all of which fire."""

    def told_of(self, group_of):
        made = [series(group=group_of(k)) for k in range(64)] + [lamp()] * 32
        shine = [on(k) for k in range(64)] + [tick(1)] + [note(k) for k in range(17)]
        end_all = [off(k) for k in range(64)] + [tick(2)] + [note(k) for k in range(17)]
        return ask(begin(), *made, *shine, *end_all)

    def pairs_of(self, group_of, group):
        return [number for rule in range(32) for k in range(64) if group_of(k) == group for number in (rule, k)]

    def check(self, group_of):
        given = self.told_of(group_of)
        groups = sorted({group_of(k) for k in range(64)})
        for tick_at, new in ((161, True), (243, False)):
            self.assertEqual(given[tick_at], [len(groups)])
            for k, group in enumerate(groups):
                pairs = self.pairs_of(group_of, group)
                counts = [len(pairs) // 2, 0] if new else [0, len(pairs) // 2]
                self.assertEqual(given[tick_at + 1 + k], [1, group, 0] + counts + pairs)
            self.assertEqual(given[tick_at + 1 + len(groups)], [0])

    def test_in_one_group(self):
        self.check(lambda k: 0)
        self.check(lambda k: 15)

    def test_in_two_groups(self):
        self.check(lambda k: 9 if k < 40 else 3)

    def test_in_all_groups(self):
        self.check(lambda k: k % 16)
        self.check(lambda k: 15 - k // 4)

    def test_nearly_a_million_numbers_are_answered(self):
        made = [series()] * 64 + [lamp()] * 32 + [on(k) for k in range(64)]
        given = answers(line(begin(), *made, tick(1), *[note(0)] * 243))
        self.assertEqual(len(given), 2 * (1 + 96 + 64 + 1) + 243 * (1 + 5 + 2 * 2048))


if __name__ == "__main__":
    unittest.main()
