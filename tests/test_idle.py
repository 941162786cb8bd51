"""Promise 13: idle."""

import unittest

from tests.helper import (
    BASE, HUGE, KIND, LIMIT, TWICE, choose, idle, last, places, platform, rank, setting, tell, toolchain,
)


class IdleTest(unittest.TestCase):
    def test_nothing_there(self):
        self.assertEqual(tell(idle(), idle(0), idle(31, 0)), [[0], [0], [0]])

    def test_all_are_idle_without_places_or_platforms(self):
        self.assertEqual(last(toolchain(4), toolchain(4), rank(1, 0), idle(4)), [0, 1, 0])
        self.assertEqual(last(platform(), toolchain(4), toolchain(4), rank(1, 0), idle(4)), [0, 1, 0])

    def test_only_those_of_the_ranking(self):
        self.assertEqual(last(toolchain(4), toolchain(4), toolchain(4), rank(2), idle(4)), [0, 2])

    def test_only_those_whose_kind_is_in_the_list(self):
        base = (toolchain(4), toolchain(5), toolchain(6), rank(2, 1, 0))
        told = tell(*base, idle(), idle(7), idle(5), idle(4, 6), idle(6, 4), idle(4, 5, 6))
        self.assertEqual(told[4:], [[0], [0], [0, 1], [0, 2, 0], [0, 2, 0], [0, 2, 1, 0]])

    def test_behind_one_that_fits_all(self):
        base = (*BASE, toolchain(4), toolchain(4, [0, 1], [0, 1]), places(0, 1))
        self.assertEqual(last(*base, rank(0, 1), idle(4)), [0, 1])
        self.assertEqual(last(*base, rank(1, 0), idle(4)), [0])

    def test_another_kind_ahead_is_no_matter(self):
        base = (*BASE, toolchain(4), toolchain(5), places(0))
        self.assertEqual(last(*base, rank(0, 1), idle(4, 5)), [0])

    def test_one_that_fits_no_place_of_the_places(self):
        base = (*BASE, toolchain(4, [0, 2]), rank(0))
        self.assertEqual(last(*base, places(0, 1), idle(4)), [0, 0])
        self.assertEqual(last(*base, places(0, 2), idle(4)), [0])

    def test_targets_are_all_platforms_not_the_places_alone(self):
        base = (*BASE, toolchain(4, [], [0, 2]), rank(0))
        self.assertEqual(last(*base, places(0), idle(4)), [0])

    def test_one_that_fits_no_target(self):
        base = (setting(4), *BASE[1:], toolchain(4, [], [0, 3]), rank(0), places(0, 1, 2))
        self.assertEqual(last(*base, idle(4)), [0, 0])

    def test_covered_by_several_ahead_of_it_together(self):
        base = (*BASE, *[toolchain(4, [], [0, v]) for v in range(3)], toolchain(4), places(0, 1))
        self.assertEqual(last(*base, rank(0, 1, 2, 3), idle(4)), [0, 3])
        self.assertEqual(last(*base, rank(0, 1, 3, 2), idle(4)), [0, 2])
        self.assertEqual(last(*base, rank(0, 2, 3), idle(4)), [0])
        self.assertEqual(last(*base, rank(3, 2, 1, 0), idle(4)), [0, 2, 1, 0])

    def test_covered_at_one_place_but_not_at_another(self):
        base = (*BASE, toolchain(4, [0, 0]), toolchain(4), rank(0, 1))
        self.assertEqual(last(*base, places(0), idle(4)), [0, 1])
        self.assertEqual(last(*base, places(0, 1), idle(4)), [0])

    def test_idle_ones_of_several_kinds_in_the_rankings_order(self):
        base = (*BASE, *[toolchain(kind) for kind in (9, 4, 9, 4)], places(1))
        self.assertEqual(last(*base, rank(3, 2, 1, 0), idle(9, 4)), [0, 1, 0])
        self.assertEqual(last(*base, rank(0, 3, 2, 1), idle(4, 9)), [0, 2, 1])

    def test_a_place_that_is_its_own_target(self):
        base = (setting(2), platform(-1, [0, 1]), toolchain(0, [0, 1], [0, 1]), rank(0), places(0))
        self.assertEqual(last(*base, idle(0)), [0])

    def test_a_newer_platform_is_a_target_too(self):
        base = (setting(2), platform(-1, [0, 0]), toolchain(0, [], [0, 1]), rank(0), places(0))
        told = tell(*base, idle(0), platform(-1, [0, 1]), idle(0))
        self.assertEqual(told[5:], [[0, 0], [1], [0]])

    def test_chosen_at_a_platform_that_is_no_place_is_idle_all_the_same(self):
        told = tell(*BASE, toolchain(4, [0, 2]), rank(0), places(0), choose(4, 2, 0), idle(4))
        self.assertEqual(told[-2:], [[1, 0], [0, 0]])

    def test_what_is_chosen_is_not_idle(self):
        base = (*BASE, toolchain(4, [0, 0], [0, 0]), toolchain(4, [0, 0]), toolchain(4, [0, 0], [0, 1]), toolchain(5))
        told = tell(*base, rank(2, 0, 1, 3), places(0), *[choose(4, 0, target) for target in range(3)], idle(4, 5))
        self.assertEqual(told[-4:], [[1, 0], [1, 2], [1, 1], [0]])

    def test_all_platforms_and_all_toolchains(self):
        ranking = list(range(31, -1, -1))
        base = (*[platform()] * 16, *[toolchain(number // 2) for number in range(32)], rank(*ranking))
        told = tell(*base, places(*range(16)), idle(*range(16)), places(), idle(*range(16)))
        self.assertEqual(told[-3:], [[0] + ranking[1::2], [0], [0] + ranking])

    def test_kinds(self):
        for kind in (0, 31):
            self.assertEqual(last(toolchain(kind), rank(0), idle(kind)), [0, 0], kind)
        for kind in (-1, 32, HUGE, -HUGE):
            self.assertEqual(tell(idle(kind)), [[KIND]], kind)
        self.assertEqual(last(toolchain(31), rank(0), idle(*range(32))), [0, 0])

    def test_limit_then_each_then_twice(self):
        self.assertEqual(tell(idle(*[0] * 65)), [[LIMIT]])
        self.assertEqual(tell(idle(*[32] * 100)), [[LIMIT]])
        self.assertEqual(tell(idle(*[0] * 64)), [[TWICE]])
        self.assertEqual(tell(idle(*[0] * 63, 32)), [[KIND]])
        self.assertEqual(tell(idle(3, 3, -1)), [[KIND]])
        self.assertEqual(tell(idle(3, 4, 3)), [[TWICE]])

    def test_asking_changes_nothing(self):
        told = tell(*BASE, toolchain(4), toolchain(4), rank(1, 0), places(2), *[idle(4)] * 3)
        self.assertEqual(told[-3:], [[0, 0]] * 3)


if __name__ == "__main__":
    unittest.main()
