"""What the document says of a whole line: its form, its beginning, and that nothing is changed or kept."""

import contextlib
import io
import sys
import unittest

from tests.helper import (
    CHAIN, FULL, HUGE, KIND, LIMIT, PLATFORM, SETTING, TWICE, VALUE, fits, idle, joined, places, platform, rank,
    setting, taken_apart, toolchain, value,
)
from toolchoice.desk import answers

EXAMPLE = (
    setting(2, -1), platform(-1, [0, 0]), platform(-1, [0, 1]), platform(0), toolchain(7, [0, 0]),
    toolchain(7, [0, 1], [0, 1]), rank(1, 0), places(0, 1), fits(1, 0, 1), value(2, 0), idle(7),
)
REFUSED = (
    (LIMIT, setting(0)), (LIMIT, setting(2, 2)), (PLATFORM, platform(3)), (LIMIT, platform(0, [0])),
    (SETTING, platform(0, [1, 0])), (VALUE, platform(0, [0, 2])), (TWICE, platform(0, [0, 0, 0, 1])),
    (KIND, toolchain(32)), (LIMIT, toolchain(7, [0] * 66)), (SETTING, toolchain(7, [], [-1, 0])),
    (VALUE, toolchain(7, [0, -1])), (LIMIT, rank(*[0] * 65)), (CHAIN, rank(0, 2)), (TWICE, rank(0, 0)),
    (LIMIT, places(*[2] * 65)), (PLATFORM, places(2, 3)), (TWICE, places(2, 2)), (PLATFORM, value(3, 0)),
    (SETTING, value(0, 1)), (CHAIN, fits(2, 0, 0)), (PLATFORM, fits(0, 3, 0)), (PLATFORM, fits(0, 0, 3)),
    (LIMIT, idle(*[0] * 65)), (KIND, idle(32)), (TWICE, idle(7, 7)),
)
# One behind another these show all that the example has built, and what number comes next of each.
SHOWN = (
    *[value(p, 0) for p in range(4)], *[fits(t, p, q) for t in range(3) for p in range(3) for q in range(3)],
    idle(7), places(), idle(7), setting(1), platform(), toolchain(0),
)


class ListThatMayNotChange(list):
    def refuse(self, *args, **kwargs):
        raise AssertionError("the list that was handed in is changed")

    append = clear = extend = insert = pop = remove = reverse = sort = refuse
    __setitem__ = __delitem__ = __iadd__ = __imul__ = refuse


class LineTest(unittest.TestCase):
    def test_the_form_of_calls_and_answers(self):
        calls = [0, 2, -1, 1, -1, 2, 0, 0, 1, -1, 2, 0, 1, 1, 0, 0, 2, 7, 2, 0, 0, 0, 2, 7, 2, 0, 1, 2, 0, 1]
        calls += [3, 2, 1, 0, 4, 2, 0, 1, 6, 1, 0, 1, 5, 2, 0, 12, 1, 7]
        told = [1, 0, 1, 0, 1, 1, 1, 2, 1, 0, 1, 1, 1, 0, 1, 0, 2, 1, 0, 2, 1, 0, 1, 0]
        self.assertEqual(calls, joined(EXAMPLE))
        self.assertEqual(answers(calls), told)

    def test_a_list_of_whole_numbers_is_given_back(self):
        told = answers(joined(EXAMPLE))
        self.assertIs(type(told), list)
        self.assertEqual({type(number) for number in told}, {int})

    def test_a_refusal_stands_alone(self):
        for refusal, call in REFUSED:
            self.assertEqual(answers(joined(EXAMPLE) + call)[-2:], [1, refusal], call)

    def test_a_refused_call_leaves_everything_as_it_was(self):
        shown = taken_apart(answers(joined(EXAMPLE + SHOWN)))[len(EXAMPLE):]
        for refusal, call in REFUSED:
            told = taken_apart(answers(joined(EXAMPLE + (call,) + SHOWN)))[len(EXAMPLE):]
            self.assertEqual(told, [[refusal]] + shown, call)

    def test_a_call_refused_as_full_leaves_everything_as_it_was(self):
        filled = (*[setting(2)] * 16, *[platform(-1, [0, 1])] * 16, *[toolchain(3)] * 32, rank(4, 5), places(6))
        shown = (*[value(p, 0) for p in range(17)], *[value(0, s) for s in range(17)], fits(31, 15, 15), idle(3))
        before = taken_apart(answers(joined(filled + shown)))[len(filled):]
        for call in (setting(2, 1), platform(0, [0, 0]), toolchain(3, [0, 0])):
            after = taken_apart(answers(joined(filled + (call,) + shown)))[len(filled):]
            self.assertEqual(after, [[FULL]] + before, call)

    def test_what_is_handed_in_is_not_changed(self):
        for calls in (joined(EXAMPLE), joined([call for refusal, call in REFUSED]), joined(EXAMPLE + SHOWN)):
            copy = list(calls)
            told = answers(calls)
            self.assertEqual(calls, copy)
            self.assertEqual(answers(ListThatMayNotChange(calls)), told)

    def test_what_is_given_back_is_new_each_time(self):
        calls = joined(EXAMPLE)
        told = answers(calls)
        copy = list(told)
        told.clear()
        self.assertEqual(answers(calls), copy)

    def test_nothing_is_kept_from_one_time_to_the_next(self):
        self.assertEqual(answers(joined(EXAMPLE)), answers(joined(EXAMPLE)))
        self.assertEqual(answers(value(0, 0)), [1, PLATFORM])
        self.assertEqual(answers(rank(0)), [1, CHAIN])
        self.assertEqual(answers(idle(7)), [1, 0])
        self.assertEqual(answers(setting(2)), [1, 0])
        self.assertEqual(answers(platform(-1, [0, 0])), [1, SETTING])

    def test_nothing_is_printed_read_or_imported(self):
        out, err = io.StringIO(), io.StringIO()
        modules = set(sys.modules)
        with contextlib.redirect_stdout(out), contextlib.redirect_stderr(err):
            answers(joined(EXAMPLE + SHOWN))
        self.assertEqual((out.getvalue(), err.getvalue()), ("", ""))
        self.assertEqual(set(sys.modules), modules)

    def test_400_calls_with_lists_of_100(self):
        calls = [rank(*[HUGE] * 100), places(*[-HUGE] * 100), platform(-1, [0] * 100), idle(*[0] * 100)] * 100
        self.assertEqual(answers(joined(calls[:160])), [1, LIMIT] * 160)
        self.assertEqual(answers(joined([setting(17)] * 400)), [1, LIMIT] * 400)

    def test_numbers_that_look_like_calls_within_rows(self):
        calls = (rank(3, 4, 5), places(12, 0), idle(12, 3, 0), setting(1))
        self.assertEqual(taken_apart(answers(joined(calls))), [[CHAIN], [PLATFORM], [0], [0]])


if __name__ == "__main__":
    unittest.main()
