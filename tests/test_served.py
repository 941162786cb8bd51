"""Promise 11: served."""

import unittest

from tests.helper import (
    BASE, HUGE, KIND, LIMIT, TWICE, last, places, platform, rank, served, setting, tell, toolchain,
)


class ServedTest(unittest.TestCase):
    def test_nothing_there(self):
        self.assertEqual(tell(served(), served(0), served(31, 0)), [[0], [0], [0]])

    def test_without_kinds_all_platforms_as_soon_as_there_is_a_place(self):
        self.assertEqual(tell(*BASE, served(), places(2), served())[-3:], [[0], [0], [0, 0, 1, 2]])

    def test_the_targets_whose_needs_are_met(self):
        base = (*BASE, toolchain(4, [], [0, 0, 0, 2]), rank(0), places(1))
        self.assertEqual(last(*base, served(4)), [0, 0, 2])

    def test_targets_are_all_platforms_not_the_places_alone(self):
        base = (*BASE, toolchain(4, [0, 0], [0, 2]), rank(0))
        self.assertEqual(last(*base, places(0), served(4)), [0, 2])
        self.assertEqual(last(*base, places(1, 2), served(4)), [0])

    def test_in_order_of_size_whatever_the_orders(self):
        base = (*BASE, toolchain(4, [0, 2], [0, 0]), toolchain(4, [0, 1], [0, 1]), toolchain(4, [0, 0], [0, 2]))
        for order in ((0, 1, 2), (2, 1, 0), (1, 2, 0)):
            self.assertEqual(last(*base, rank(2, 0, 1), places(*order), served(4)), [0, 0, 1, 2], order)

    def test_each_target_may_have_a_place_of_its_own(self):
        base = (*BASE, toolchain(4, [0, 0], [0, 0]), toolchain(4, [0, 1], [0, 2]), rank(0, 1), places(0, 1))
        self.assertEqual(last(*base, served(4)), [0, 0, 2])

    def test_all_kinds_must_be_there_at_one_place(self):
        base = (*BASE, toolchain(4, [0, 0]), toolchain(5, [0, 1]), toolchain(5, [0, 0], [0, 1]), places(0, 1))
        self.assertEqual(last(*base, rank(0, 1), served(4, 5)), [0])
        self.assertEqual(last(*base, rank(0, 1, 2), served(4, 5)), [0, 1])
        self.assertEqual(last(*base, rank(0, 1, 2), served(5, 4)), [0, 1])
        self.assertEqual(last(*base, rank(0, 1, 2), served(4)), [0, 0, 1, 2])

    def test_a_place_listed_later_counts_too(self):
        base = (*BASE, toolchain(4, [0, 2]), rank(0), places(0, 1, 2))
        self.assertEqual(last(*base, served(4)), [0, 0, 1, 2])

    def test_only_what_the_ranking_has_is_chosen(self):
        base = (*BASE, toolchain(4), toolchain(4, [], [0, 1]), places(0))
        self.assertEqual(tell(*base, served(4), rank(1), served(4), rank(0), served(4))[-5::2], [
            [0], [0, 1], [0, 0, 1, 2],
        ])

    def test_a_newer_platform_is_a_target_too(self):
        told = tell(*BASE, toolchain(4), rank(0), places(0), served(4), platform(), served(4))
        self.assertEqual(told[-3:], [[0, 0, 1, 2], [3], [0, 0, 1, 2, 3]])

    def test_all_platforms_and_all_kinds(self):
        base = (
            setting(2, 0), *[platform(-1, [0, number % 2]) for number in range(16)],
            *[toolchain(kind, [], [0, 1]) for kind in range(32)], rank(*range(31, -1, -1)), places(*range(16)),
        )
        self.assertEqual(last(*base, served(*range(32))), [0] + list(range(1, 16, 2)))

    def test_kinds(self):
        base = (platform(), places(0))
        for kind in (0, 31):
            self.assertEqual(last(*base, toolchain(kind), rank(0), served(kind)), [0, 0], kind)
        for kind in (-1, 32, HUGE, -HUGE):
            self.assertEqual(last(*base, served(4, kind)), [KIND], kind)

    def test_limit_then_each_then_twice(self):
        self.assertEqual(tell(served(*[0] * 65)), [[LIMIT]])
        self.assertEqual(tell(served(*[32] * 100)), [[LIMIT]])
        self.assertEqual(tell(served(*[0] * 64)), [[TWICE]])
        self.assertEqual(tell(served(*[0] * 63, 32)), [[KIND]])
        self.assertEqual(tell(served(3, 3, -1)), [[KIND]])
        self.assertEqual(tell(served(3, 4, 3)), [[TWICE]])


if __name__ == "__main__":
    unittest.main()
