"""Promises 4 and 5: rank and places."""

import unittest

from tests.helper import CHAIN, HUGE, LIMIT, PLATFORM, TWICE, idle, last, places, platform, rank, tell, toolchain


class RankTest(unittest.TestCase):
    def test_answers_0(self):
        base = [toolchain(1)] * 3
        for order in ((), (0,), (2, 0), (2, 1, 0)):
            self.assertEqual(last(*base, rank(*order)), [0], order)

    def test_all_32_toolchains(self):
        order = list(range(31, -1, -1))
        self.assertEqual(tell(*[toolchain(1)] * 32, rank(*order), idle(1))[-2:], [[0], [0] + order])

    def test_it_is_the_ranking_from_then_on(self):
        told = tell(*[toolchain(1)] * 3, idle(1), rank(2, 0), idle(1), rank(1), idle(1), rank(), idle(1))
        self.assertEqual(told[3:], [[0], [0], [0, 2, 0], [0], [0, 1], [0], [0]])

    def test_toolchains_that_are_none(self):
        self.assertEqual(tell(rank(0)), [[CHAIN]])
        for number in (1, -1, HUGE, -HUGE):
            self.assertEqual(last(toolchain(1), rank(0, number)), [CHAIN], number)

    def test_limit_then_each_then_twice(self):
        base = (toolchain(1), toolchain(1))
        self.assertEqual(last(*base, rank(*[0] * 65)), [LIMIT])
        self.assertEqual(last(*base, rank(*[7] * 100)), [LIMIT])
        self.assertEqual(last(*base, rank(*[0] * 64)), [TWICE])
        self.assertEqual(last(*base, rank(*[0] * 63, 2)), [CHAIN])
        self.assertEqual(last(*base, rank(0, 0, 2)), [CHAIN])
        self.assertEqual(last(*base, rank(0, 1, 0)), [TWICE])
        self.assertEqual(last(*base, rank(2, 2)), [CHAIN])

    def test_a_refused_one_leaves_the_ranking(self):
        base = (*[toolchain(1)] * 3, rank(1, 0))
        for wrong in (rank(2, 2), rank(2, 3), rank(*[2] * 65), rank(-1)):
            self.assertEqual(last(*base, wrong, idle(1)), [0, 1, 0], wrong)


class PlacesTest(unittest.TestCase):
    # Toolchain 0 is chosen wherever there is a place, so it is idle only while there is none.
    def test_answers_0(self):
        base = [platform()] * 3
        for order in ((), (0,), (2, 0), (2, 1, 0)):
            self.assertEqual(last(*base, places(*order)), [0], order)

    def test_all_16_platforms(self):
        self.assertEqual(last(*[platform()] * 16, places(*range(15, -1, -1))), [0])

    def test_these_are_the_places_from_then_on(self):
        told = tell(platform(), toolchain(1), rank(0), idle(1), places(0), idle(1), places(), idle(1))
        self.assertEqual(told[3:], [[0, 0], [0], [0], [0], [0, 0]])

    def test_a_new_platform_is_no_place(self):
        self.assertEqual(last(toolchain(1), rank(0), platform(), idle(1)), [0, 0])

    def test_platforms_that_are_none(self):
        self.assertEqual(tell(places(0)), [[PLATFORM]])
        for number in (1, -1, HUGE, -HUGE):
            self.assertEqual(last(platform(), places(0, number)), [PLATFORM], number)

    def test_limit_then_each_then_twice(self):
        base = (platform(), platform())
        self.assertEqual(last(*base, places(*[0] * 65)), [LIMIT])
        self.assertEqual(last(*base, places(*[7] * 100)), [LIMIT])
        self.assertEqual(last(*base, places(*[0] * 64)), [TWICE])
        self.assertEqual(last(*base, places(*[0] * 63, 2)), [PLATFORM])
        self.assertEqual(last(*base, places(0, 0, 2)), [PLATFORM])
        self.assertEqual(last(*base, places(0, 1, 0)), [TWICE])
        self.assertEqual(last(*base, places(2, 2)), [PLATFORM])

    def test_a_refused_one_leaves_the_places(self):
        base = (platform(), toolchain(1), rank(0))
        for wrong in (places(0, 0), places(0, 1), places(*[0] * 65), places(-1)):
            self.assertEqual(last(*base, wrong, idle(1)), [0, 0], wrong)
            self.assertEqual(last(*base, places(0), wrong, idle(1)), [0], wrong)


if __name__ == "__main__":
    unittest.main()
