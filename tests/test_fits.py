"""Promise 7: fits."""

import unittest

from tests.helper import CHAIN, HUGE, PLATFORM, fits, last, places, platform, rank, setting, tell, toolchain

# Platforms 0 to 3 have the values (0, 0), (1, 0), (2, 1) and (none, none) for the settings 0 and 1.
BASE = (
    setting(3), setting(2), platform(-1, [0, 0, 1, 0]), platform(-1, [0, 1, 1, 0]), platform(-1, [0, 2, 1, 1]),
    platform(),
)


def fit(first, second, place, target):
    return last(*BASE, toolchain(0, first, second), fits(0, place, target))


class FitsTest(unittest.TestCase):
    def test_the_documents_example(self):
        told = tell(
            setting(2, -1), platform(-1, [0, 0]), platform(-1, [0, 1]), platform(0),
            toolchain(7, [0, 0]), toolchain(7, [0, 1], [0, 1]), rank(1, 0), places(0, 1), fits(1, 0, 1),
        )
        self.assertEqual(told, [[0], [0], [1], [2], [0], [1], [0], [0], [1, 0]])

    def test_needs_without_pairs_are_met_by_all(self):
        for place in range(4):
            for target in range(4):
                self.assertEqual(fit([], [], place, target), [0])

    def test_alternatives_for_one_setting(self):
        met = [fit([0, 0, 0, 2], [], place, 0) for place in range(4)]
        self.assertEqual(met, [[0], [1, 0], [0], [1, 0]])
        met = [fit([], [0, 0, 0, 2], 0, target) for target in range(4)]
        self.assertEqual(met, [[0], [2, 0], [0], [2, 0]])

    def test_several_settings_must_all_be_met(self):
        met = [fit([0, 0, 0, 1, 1, 0], [], place, 0) for place in range(4)]
        self.assertEqual(met, [[0], [0], [1, 0], [1, 0]])
        met = [fit([0, 1, 0, 2, 1, 1], [], place, 0) for place in range(4)]
        self.assertEqual(met, [[1, 0], [1, 1], [0], [1, 0]])

    def test_the_first_pairs_setting_is_told_not_the_smallest(self):
        self.assertEqual(fit([1, 1, 0, 1], [], 0, 0), [1, 1])
        self.assertEqual(fit([0, 1, 1, 1], [], 0, 0), [1, 0])
        self.assertEqual(fit([], [1, 1, 0, 1], 0, 0), [2, 1])

    def test_alternatives_that_lie_apart(self):
        self.assertEqual(fit([0, 1, 1, 1, 0, 0], [], 0, 0), [1, 1])
        self.assertEqual(fit([0, 1, 1, 1, 0, 2], [], 0, 0), [1, 0])
        self.assertEqual(fit([1, 1, 0, 1, 1, 0, 0, 2], [], 0, 0), [1, 0])

    def test_the_first_need_is_told_ahead_of_the_second(self):
        self.assertEqual(fit([1, 1], [0, 1], 0, 0), [1, 1])
        self.assertEqual(fit([1, 0], [0, 1], 0, 0), [2, 0])

    def test_the_first_need_is_the_places_and_the_second_the_targets(self):
        self.assertEqual(fit([0, 1], [0, 2], 1, 2), [0])
        self.assertEqual(fit([0, 1], [0, 2], 2, 1), [1, 0])
        self.assertEqual(fit([0, 1], [0, 2], 1, 1), [2, 0])

    def test_a_pair_that_stands_twice(self):
        self.assertEqual(fit([0, 0, 0, 0], [1, 0, 1, 0], 0, 0), [0])

    def test_values_of_parents_and_defaults_count(self):
        base = (setting(3), setting(2, 1), platform(-1, [0, 2]), platform(0))
        self.assertEqual(last(*base, toolchain(0, [0, 2, 1, 1], [1, 1]), fits(0, 1, 1)), [0])
        self.assertEqual(last(*base, toolchain(0, [0, 2, 1, 0]), fits(0, 1, 1)), [1, 1])

    def test_all_sixteen_settings(self):
        own = [number for s in range(16) for number in (s, s)]
        base = (*[setting(16)] * 16, platform(-1, own), platform(0, [15, 3]))
        need = [number for s in range(15, -1, -1) for number in (s, s)]
        told = tell(*base, toolchain(31, need, need), fits(0, 0, 0), fits(0, 1, 0), fits(0, 0, 1))
        self.assertEqual(told[-3:], [[0], [1, 15], [2, 15]])

    def test_refusals_in_their_order(self):
        base = (platform(), toolchain(0))
        for number in (1, -1, HUGE, -HUGE):
            self.assertEqual(last(*base, fits(number, 0, 0)), [CHAIN], number)
            self.assertEqual(last(*base, fits(0, number, 0)), [PLATFORM], number)
            self.assertEqual(last(*base, fits(0, 0, number)), [PLATFORM], number)
            self.assertEqual(last(*base, fits(number, number, number)), [CHAIN], number)
        self.assertEqual(tell(fits(0, 0, 0)), [[CHAIN]])
        self.assertEqual(last(toolchain(0), fits(0, 0, 0)), [PLATFORM])

    def test_a_toolchain_out_of_the_ranking_is_told_of_too(self):
        self.assertEqual(last(platform(), toolchain(0), toolchain(1), rank(0), fits(1, 0, 0)), [0])


if __name__ == "__main__":
    unittest.main()
