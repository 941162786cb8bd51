"""Promise 8: choose."""

import unittest

from tests.helper import (
    BASE, HUGE, KIND, PLATFORM, choose, last, places, platform, rank, setting, tell, toolchain,
)


class ChooseTest(unittest.TestCase):
    def test_the_first_of_the_ranking_that_has_the_kind(self):
        base = (*BASE, *[toolchain(kind) for kind in (4, 5, 4, 5)])
        told = tell(*base, rank(2, 3, 0, 1), choose(4, 0, 0), choose(5, 0, 0), rank(1, 0), choose(4, 0, 0))
        self.assertEqual(told[-4:], [[1, 2], [1, 3], [0], [1, 0]])

    def test_toolchain_0_is_told_with_a_1_ahead(self):
        self.assertEqual(last(platform(), toolchain(0), rank(0), choose(0, 0, 0)), [1, 0])

    def test_none_of_the_kind(self):
        self.assertEqual(last(*BASE, toolchain(4), rank(0), choose(5, 0, 0)), [0])

    def test_none_out_of_the_ranking(self):
        self.assertEqual(last(*BASE, toolchain(4), choose(4, 0, 0)), [0])
        self.assertEqual(last(*BASE, toolchain(4), toolchain(4, [0, 1]), rank(1), choose(4, 0, 0)), [0])

    def test_those_that_do_not_fit_are_passed_over(self):
        base = (*BASE, toolchain(4, [0, 0]), toolchain(4, [], [0, 1]), toolchain(4), rank(0, 1, 2))
        self.assertEqual(last(*base, choose(4, 0, 1)), [1, 0])
        self.assertEqual(last(*base, choose(4, 1, 1)), [1, 1])
        self.assertEqual(last(*base, choose(4, 1, 0)), [1, 2])

    def test_both_needs_must_be_met(self):
        base = (*BASE, toolchain(4, [0, 1], [0, 2]), rank(0))
        met = [last(*base, choose(4, place, target)) for place in range(3) for target in range(3)]
        self.assertEqual(met, [[0]] * 5 + [[1, 0]] + [[0]] * 3)

    def test_alternatives_and_several_settings(self):
        base = (
            setting(3), setting(2, 1), platform(-1, [0, 0]), platform(0, [0, 2]), platform(1, [1, 0]), platform(),
            toolchain(4, [0, 0, 1, 1, 0, 2]), rank(0),
        )
        self.assertEqual([last(*base, choose(4, place, 0)) for place in range(4)], [[1, 0], [1, 0], [0], [0]])

    def test_a_platform_that_is_none_of_the_places(self):
        base = (*BASE, toolchain(4), rank(0))
        self.assertEqual(last(*base, choose(4, 2, 0)), [1, 0])
        self.assertEqual(last(*base, places(0), choose(4, 2, 1)), [1, 0])

    def test_kinds_0_and_31(self):
        told = tell(platform(), toolchain(31), toolchain(0), rank(0, 1), choose(31, 0, 0), choose(0, 0, 0))
        self.assertEqual(told[-2:], [[1, 0], [1, 1]])

    def test_toolchain_31(self):
        base = (platform(), *[toolchain(1)] * 31, toolchain(2), rank(*range(32)))
        self.assertEqual(last(*base, choose(2, 0, 0)), [1, 31])

    def test_refusals_in_their_order(self):
        base = (platform(), toolchain(4), rank(0))
        for number in (-1, HUGE, -HUGE):
            self.assertEqual(last(*base, choose(number, 0, 0)), [KIND], number)
            self.assertEqual(last(*base, choose(4, number, 0)), [PLATFORM], number)
            self.assertEqual(last(*base, choose(4, 0, number)), [PLATFORM], number)
            self.assertEqual(last(*base, choose(number, number, number)), [KIND], number)
        self.assertEqual(last(*base, choose(32, 0, 0)), [KIND])
        self.assertEqual(last(*base, choose(31, 1, 0)), [PLATFORM])
        self.assertEqual(last(*base, choose(31, 0, 1)), [PLATFORM])
        self.assertEqual(tell(choose(32, 0, 0), choose(31, 0, 0)), [[KIND], [PLATFORM]])


if __name__ == "__main__":
    unittest.main()
