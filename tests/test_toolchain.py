"""Promise 3: toolchain."""

import unittest

from tests.helper import (
    FULL, HUGE, KIND, LIMIT, SETTING, VALUE, fits, idle, last, platform, rank, setting, tell, toolchain,
)


class ToolchainTest(unittest.TestCase):
    def test_numbers_go_up_from_0(self):
        told = tell(setting(2), toolchain(3), toolchain(3, [0, 1]), toolchain(0, [], [0, 0]))
        self.assertEqual(told, [[0], [0], [1], [2]])

    def test_kinds(self):
        for kind in (0, 1, 30, 31):
            self.assertEqual(tell(toolchain(kind)), [[0]], kind)
        for kind in (-1, 32, HUGE, -HUGE):
            self.assertEqual(tell(toolchain(kind)), [[KIND]], kind)

    def test_either_list_too_long_or_odd(self):
        for length in (1, 3, 63, 65, 66, 99, 100):
            self.assertEqual(last(setting(2), toolchain(0, [0] * length)), [LIMIT], length)
            self.assertEqual(last(setting(2), toolchain(0, [], [0] * length)), [LIMIT], length)

    def test_lists_of_64_are_taken(self):
        self.assertEqual(last(setting(2), toolchain(0, [0] * 64, [0, 1] * 32)), [0])

    def test_settings_and_values_that_are_none(self):
        for number in (1, -1, HUGE, -HUGE):
            self.assertEqual(last(setting(1), toolchain(0, [0, 0, number, 0])), [SETTING], number)
            self.assertEqual(last(setting(1), toolchain(0, [], [0, 0, number, 0])), [SETTING], number)
            self.assertEqual(last(setting(1), toolchain(0, [0, 0, 0, number])), [VALUE], number)
            self.assertEqual(last(setting(1), toolchain(0, [], [0, 0, 0, number])), [VALUE], number)

    def test_pair_by_pair(self):
        self.assertEqual(last(setting(2), toolchain(0, [0, 2, 1, 0])), [VALUE])
        self.assertEqual(last(setting(2), toolchain(0, [1, 0, 0, 2])), [SETTING])
        self.assertEqual(last(setting(2), toolchain(0, [], [0, 2, 1, 0])), [VALUE])
        self.assertEqual(last(setting(2), toolchain(0, [], [1, 0, 0, 2])), [SETTING])

    def test_a_pair_may_stand_twice(self):
        self.assertEqual(last(setting(2), toolchain(0, [0, 1, 0, 1], [0, 0, 0, 1, 0, 0])), [0])

    def test_thirty_two_toolchains_and_no_more(self):
        told = tell(*[toolchain(5)] * 34)
        self.assertEqual(told, [[number] for number in range(32)] + [[FULL], [FULL]])

    def test_what_is_looked_at_first(self):
        base = (setting(2), *[toolchain(0)] * 32)
        wrong_first = [
            (KIND, toolchain(32, [0], [0])),
            (KIND, toolchain(-1, [1, 0], [0, 2])),
            (LIMIT, toolchain(31, [0], [1, 0])),
            (SETTING, toolchain(31, [1, 0], [0])),
            (SETTING, toolchain(31, [1, 0], [0, 2])),
            (VALUE, toolchain(31, [0, 2], [0])),
            (VALUE, toolchain(31, [0, 2], [1, 0])),
            (LIMIT, toolchain(31, [0, 0], [1])),
            (SETTING, toolchain(31, [0, 0], [1, 0])),
            (VALUE, toolchain(31, [0, 0], [0, 2])),
            (FULL, toolchain(31, [0, 0], [0, 1])),
        ]
        for refusal, call in wrong_first:
            self.assertEqual(last(*base, call), [refusal], call)

    def test_the_ranking_stays(self):
        told = tell(toolchain(5), rank(0), toolchain(5), toolchain(5), idle(5))
        self.assertEqual(told[-1], [0, 0])
        self.assertEqual(last(toolchain(5), idle(5)), [0])

    def test_a_refused_one_takes_no_number(self):
        told = tell(
            setting(2), platform(), toolchain(32), toolchain(0, [0]), toolchain(0, [], [1, 0]),
            fits(0, 0, 0), toolchain(0), fits(0, 0, 0), rank(0), toolchain(-1), idle(0),
        )
        self.assertEqual(told, [[0], [0], [KIND], [LIMIT], [SETTING], [-5], [0], [0], [0], [KIND], [0, 0]])


if __name__ == "__main__":
    unittest.main()
