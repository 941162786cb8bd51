"""What the document says of a whole line: its form, its beginning, and that nothing is changed or kept."""

import contextlib
import io
import sys
import unittest

from tests.helper import (
    CHAIN, FULL, HUGE, KIND, LIMIT, NONE, PLATFORM, SETTING, TWICE, VALUE, alike, choose, fits, idle, joined, places,
    platform, rank, resolve, served, setting, taken_apart, tell, toolchain, value, why,
)
from toolchoice.desk import answers

EXAMPLE = (
    setting(2, -1), platform(-1, [0, 0]), platform(-1, [0, 1]), platform(0), toolchain(7, [0, 0]),
    toolchain(7, [0, 1], [0, 1]), rank(1, 0), places(0, 1), choose(7, 0, 1), resolve(1, [7]), places(1, 0),
    resolve(1, [7]), resolve(0, [7]), fits(1, 0, 1), why(0, [7]), alike(0, 2),
)
TOLD = (
    [0], [0], [1], [2], [0], [1], [0], [0], [1, 0], [0, 0], [0], [1, 1], [0, 0], [1, 0], [0, 1, 7, 0, -1], [1],
)
REFUSED = (
    (LIMIT, setting(0)), (LIMIT, setting(2, 2)), (PLATFORM, platform(3)), (LIMIT, platform(0, [0])),
    (SETTING, platform(0, [1, 0])), (VALUE, platform(0, [0, 2])), (TWICE, platform(0, [0, 0, 0, 1])),
    (KIND, toolchain(32)), (LIMIT, toolchain(7, [0] * 66)), (SETTING, toolchain(7, [], [-1, 0])),
    (VALUE, toolchain(7, [0, -1])), (LIMIT, rank(*[0] * 65)), (CHAIN, rank(0, 2)), (TWICE, rank(0, 0)),
    (LIMIT, places(*[2] * 65)), (PLATFORM, places(2, 3)), (TWICE, places(2, 2)), (PLATFORM, value(3, 0)),
    (SETTING, value(0, 1)), (CHAIN, fits(2, 0, 0)), (PLATFORM, fits(0, 3, 0)), (PLATFORM, fits(0, 0, 3)),
    (KIND, choose(32, 0, 0)), (PLATFORM, choose(7, 3, 0)), (PLATFORM, choose(7, 0, 3)), (PLATFORM, resolve(3, [7])),
    (LIMIT, resolve(0, [7] * 65)), (KIND, resolve(0, [32])), (TWICE, resolve(0, [7, 7])),
    (LIMIT, resolve(0, [7], [7] * 65)), (KIND, resolve(0, [7], [-1])), (TWICE, resolve(0, [7], [8, 8])),
    (NONE, resolve(0, [8])), (PLATFORM, why(3, [7])), (LIMIT, why(0, [7] * 65)), (KIND, why(0, [32])),
    (TWICE, why(0, [7, 7])), (LIMIT, served(*[0] * 65)), (KIND, served(-1)), (TWICE, served(7, 7)),
    (PLATFORM, alike(3, 0)), (PLATFORM, alike(0, 3)),
    (LIMIT, idle(*[0] * 65)), (KIND, idle(32)), (TWICE, idle(7, 7)),
)
# One behind another these show all that the example has built, and what number comes next of each.
SHOWN = (
    *[value(p, 0) for p in range(4)], *[fits(t, p, q) for t in range(3) for p in range(3) for q in range(3)],
    *[choose(7, p, q) for p in range(3) for q in range(3)], *[resolve(p, [7], [8]) for p in range(3)],
    *[why(p, [7]) for p in range(3)], served(7), served(8), alike(0, 1), alike(0, 2),
    idle(7), places(), idle(7), setting(1), platform(), toolchain(0),
)
# Refused all but the first ones: every call with rows of the lengths about the limit, all at the ends of the numbers.
FAR = (
    setting(2, 1), platform(), toolchain(7), rank(0), places(0),
    *[call(end) for end in (HUGE, -HUGE) for call in (setting, platform, toolchain, rank, places, served, idle)],
    *[call(end, 0) for end in (HUGE, -HUGE) for call in (value, alike)],
    *[call(end, end, end) for end in (HUGE, -HUGE) for call in (fits, choose)],
    *[call(end, [end]) for end in (HUGE, -HUGE) for call in (resolve, why)],
    *[call(*[7] * length) for length in (64, 65, 100) for call in (rank, places, served, idle)],
    *[call(0, [7] * length) for length in (64, 65, 100) for call in (platform, toolchain, resolve, why)],
    *[call(0, [], [7] * length) for length in (64, 65, 100) for call in (toolchain, resolve)],
)
FAR_TOLD = (
    [0], [0], [0], [0], [0],
    *[[LIMIT], [PLATFORM], [KIND], [CHAIN], [PLATFORM], [KIND], [KIND]] * 2,
    *[[PLATFORM]] * 4,
    *[[CHAIN], [KIND]] * 2,
    *[[PLATFORM]] * 4,
    *[[CHAIN], [PLATFORM], [TWICE], [TWICE]], *[[LIMIT]] * 8,
    *[[SETTING], [SETTING], [TWICE], [TWICE]], *[[LIMIT]] * 8,
    *[[SETTING], [TWICE]], *[[LIMIT]] * 4,
)


class ListThatMayNotChange(list):
    def refuse(self, *args, **kwargs):
        raise AssertionError("the list that was handed in is changed")

    append = clear = extend = insert = pop = remove = reverse = sort = refuse
    __setitem__ = __delitem__ = __iadd__ = __imul__ = refuse


class LineTest(unittest.TestCase):
    def assert_same(self, told, asked, words=""):
        """Only the first difference is told, since assertEqual may take minutes to set long lists side by side."""
        for at, (one, other) in enumerate(zip(told, asked)):
            self.assertEqual(one, other, (at, words))
        self.assertEqual(len(told), len(asked), words)

    def test_the_documents_example(self):
        self.assertEqual(tell(*EXAMPLE), list(TOLD))

    def test_the_form_of_calls_and_answers(self):
        calls = [0, 2, -1, 1, -1, 2, 0, 0, 1, -1, 2, 0, 1, 1, 0, 0, 2, 7, 2, 0, 0, 0, 2, 7, 2, 0, 1, 2, 0, 1]
        calls += [3, 2, 1, 0, 4, 2, 0, 1, 7, 7, 0, 1, 8, 1, 1, 7, 0, 4, 2, 1, 0, 8, 1, 1, 7, 0, 8, 0, 1, 7, 0]
        calls += [6, 1, 0, 1, 9, 0, 1, 7, 11, 0, 2]
        told = [1, 0, 1, 0, 1, 1, 1, 2, 1, 0, 1, 1, 1, 0, 1, 0, 2, 1, 0, 2, 0, 0, 1, 0, 2, 1, 1, 2, 0, 0, 2, 1, 0]
        told += [5, 0, 1, 7, 0, -1, 1, 1]
        self.assertEqual(calls, joined(EXAMPLE))
        self.assertEqual(answers(calls), told)
        self.assertEqual(answers(calls + [10, 1, 7, 12, 1, 7, 5, 2, 0]), told + [4, 0, 0, 1, 2, 1, 0, 2, 1, 0])
        self.assertEqual(answers(calls + [8, 1, 1, 7, 2, 5, 7]), told + [4, 1, 1, -1, 1])

    def test_a_list_of_whole_numbers_is_given_back(self):
        told = answers(joined(EXAMPLE + SHOWN))
        self.assertIs(type(told), list)
        self.assertEqual({type(number) for number in told}, {int})

    def test_a_refusal_stands_alone(self):
        for refusal, call in REFUSED:
            self.assertEqual(answers(joined(EXAMPLE) + call)[-2:], [1, refusal], call)

    def test_a_refused_call_leaves_everything_as_it_was(self):
        shown = taken_apart(answers(joined(EXAMPLE + SHOWN)))[len(EXAMPLE):]
        for refusal, call in REFUSED:
            told = taken_apart(answers(joined(EXAMPLE + (call,) + SHOWN)))[len(EXAMPLE):]
            self.assert_same(told, [[refusal]] + shown, call)

    def test_a_call_refused_as_full_leaves_everything_as_it_was(self):
        filled = (*[setting(2)] * 16, *[platform(-1, [0, 1])] * 16, *[toolchain(3)] * 32, rank(4, 5), places(6))
        shown = (
            *[value(p, 0) for p in range(17)], *[value(0, s) for s in range(17)], fits(31, 15, 15), idle(3),
            *[choose(3, p, p) for p in range(17)], resolve(15, [3]), why(15, [3]), served(3), alike(15, 16),
        )
        before = taken_apart(answers(joined(filled + shown)))[len(filled):]
        for call in (setting(2, 1), platform(0, [0, 0]), toolchain(3, [0, 0])):
            after = taken_apart(answers(joined(filled + (call,) + shown)))[len(filled):]
            self.assert_same(after, [[FULL]] + before, call)

    def test_what_is_handed_in_is_not_changed(self):
        refused = [call for refusal, call in REFUSED]
        for calls in (joined(EXAMPLE), joined(refused), joined(EXAMPLE + SHOWN), joined(FAR)):
            copy = list(calls)
            told = answers(calls)
            self.assert_same(calls, copy)
            self.assert_same(answers(ListThatMayNotChange(calls)), told)

    def test_what_is_given_back_is_new_each_time(self):
        calls = joined(EXAMPLE)
        told = answers(calls)
        copy = list(told)
        told.clear()
        self.assert_same(answers(calls), copy)

    def test_nothing_is_kept_from_one_time_to_the_next(self):
        for calls in (joined(EXAMPLE), joined(EXAMPLE + SHOWN), joined(FAR)):
            told = list(answers(calls))
            self.assert_same(answers(calls), told)
        self.assertEqual(answers(value(0, 0)), [1, PLATFORM])
        self.assertEqual(answers(choose(7, 0, 0)), [1, PLATFORM])
        self.assertEqual(answers(served(7)), [1, 0])
        self.assertEqual(answers(rank(0)), [1, CHAIN])
        self.assertEqual(answers(idle(7)), [1, 0])
        self.assertEqual(answers(setting(2)), [1, 0])
        self.assertEqual(answers(platform(-1, [0, 0])), [1, SETTING])

    def test_nothing_is_printed_read_or_imported(self):
        out, err = io.StringIO(), io.StringIO()
        modules = set(sys.modules)
        with contextlib.redirect_stdout(out), contextlib.redirect_stderr(err):
            answers(joined(EXAMPLE + SHOWN))
        self.assertEqual((out.getvalue(), err.getvalue()), ("", ""))
        self.assertEqual(set(sys.modules), modules)

    def test_400_calls_with_lists_of_100(self):
        calls = [rank(*[HUGE] * 100), places(*[-HUGE] * 100), platform(-1, [0] * 100), idle(*[0] * 100)] * 100
        self.assert_same(answers(joined(calls[:160])), [1, LIMIT] * 160)
        self.assert_same(answers(joined([setting(17)] * 400)), [1, LIMIT] * 400)

    def test_rows_about_the_limit_and_numbers_at_their_ends(self):
        self.assert_same(tell(*FAR), list(FAR_TOLD))

    def test_refused_rows_are_stepped_over_whole(self):
        self.assertEqual(tell(*FAR * 3, choose(7, 2, 0))[-1], [1, 0])
        self.assertEqual(len(tell(*FAR * 3)), 3 * len(FAR))

    def test_400_calls_on_all_that_one_object_can_hold(self):
        own = [number for s in range(16) for number in (s, s)]
        built = [setting(16)] * 16 + [platform(-1, own)] * 16
        built += [toolchain(kind, own, own) for kind in range(32)] + [rank(*range(32)), places(*range(15, -1, -1))]
        # No place has kind 31 any more, so nothing ends early.
        built += [rank(*range(31))]
        kinds = list(range(32))
        asked = [served(*kinds), idle(*kinds), why(0, kinds), resolve(0, kinds), resolve(0, kinds[:31], [31])]
        asked += [alike(0, 1)]
        told = [[0], [0], [0] + [n for p in range(15, -1, -1) for n in (p, 31)], [NONE], [15] + kinds[:31] + [-1], [1]]
        line = built + (asked * 60)[:400 - len(built)]
        self.assertEqual(len(line), 400)
        self.assertLessEqual(len(joined(line)), 17000)
        self.assert_same(tell(*line)[len(built):], (told * 60)[:400 - len(built)])

    def test_numbers_that_look_like_calls_within_rows(self):
        calls = (rank(3, 4, 5), places(12, 0), idle(12, 3, 0), served(8, 9, 10), why(11, [7]), setting(1))
        self.assertEqual(tell(*calls), [[CHAIN], [PLATFORM], [0], [0], [PLATFORM], [0]])


if __name__ == "__main__":
    unittest.main()
