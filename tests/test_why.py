"""Promise 10: why."""

import unittest

from tests.helper import (
    BASE, HUGE, KIND, LIMIT, PLATFORM, STEPS, TWICE, last, places, platform, rank, tell, toolchain, why,
)


class WhyTest(unittest.TestCase):
    def test_each_place_with_the_first_kind_that_it_lacks(self):
        base = (*STEPS, places(0, 1, 2))
        self.assertEqual(last(*base, why(0, [4, 5, 6])), [0, 0, 5, 1, 6, 2, -1])
        self.assertEqual(last(*base, why(0, [6, 5, 4])), [0, 0, 6, 1, 6, 2, -1])
        self.assertEqual(last(*base, why(0, [4, 7, 5])), [0, 0, 7, 1, 7, 2, 7])

    def test_in_the_order_of_the_places(self):
        self.assertEqual(last(*STEPS, places(2, 0, 1), why(0, [5, 6])), [0, 2, -1, 0, 5, 1, 6])
        self.assertEqual(last(*STEPS, places(1), why(0, [5, 6])), [0, 1, 6])

    def test_places_behind_a_served_one_are_told_too(self):
        self.assertEqual(last(*STEPS, places(2, 1, 0), why(0, [4])), [0, 2, -1, 1, -1, 0, -1])

    def test_without_kinds_nothing_is_lacking(self):
        self.assertEqual(last(*BASE, places(1, 0), why(2)), [0, 1, -1, 0, -1])

    def test_kind_0_is_lacking(self):
        self.assertEqual(last(platform(), places(0), why(0, [0])), [0, 0, 0])

    def test_without_places(self):
        self.assertEqual(last(*STEPS, why(0, [4])), [0])
        self.assertEqual(last(*STEPS, places(0), places(), why(0)), [0])

    def test_only_what_the_ranking_has_is_chosen(self):
        base = (*BASE, toolchain(4), toolchain(5), places(1))
        self.assertEqual(last(*base, why(0, [4, 5])), [0, 1, 4])
        self.assertEqual(last(*base, rank(0), why(0, [4, 5])), [0, 1, 5])
        self.assertEqual(last(*base, rank(1, 0), why(0, [4, 5])), [0, 1, -1])

    def test_the_second_need_is_the_targets(self):
        base = (*BASE, toolchain(4, [0, 1], [0, 2]), rank(0), places(0, 1, 2))
        self.assertEqual(last(*base, why(2, [4])), [0, 0, 4, 1, -1, 2, 4])
        self.assertEqual(last(*base, why(1, [4])), [0, 0, 4, 1, 4, 2, 4])

    def test_all_platforms_and_all_kinds(self):
        base = (*[platform()] * 16, *[toolchain(kind) for kind in range(31)], rank(*range(31)))
        order = list(range(15, -1, -1))
        asked = tell(*base, places(*order), why(15, range(32)), toolchain(31), rank(*range(32)), why(0, range(32)))
        self.assertEqual(asked[-4], [0] + [number for place in order for number in (place, 31)])
        self.assertEqual(asked[-1], [0] + [number for place in order for number in (place, -1)])

    def test_refusals_in_their_order(self):
        base = (*STEPS, places(0))
        for number in (3, -1, HUGE, -HUGE):
            self.assertEqual(last(*base, why(number, [0] * 65)), [PLATFORM], number)
        for number in (-1, 32, HUGE, -HUGE):
            self.assertEqual(last(*base, why(0, [4, number])), [KIND], number)
        self.assertEqual(tell(why(0)), [[PLATFORM]])
        self.assertEqual(last(*base, why(0, [0] * 65)), [LIMIT])
        self.assertEqual(last(*base, why(0, [32] * 100)), [LIMIT])
        self.assertEqual(last(*base, why(0, [0] * 64)), [TWICE])
        self.assertEqual(last(*base, why(0, [0] * 63 + [32])), [KIND])
        self.assertEqual(last(*base, why(0, [3, 3, -1])), [KIND])
        self.assertEqual(last(*base, why(0, [3, 4, 3])), [TWICE])


if __name__ == "__main__":
    unittest.main()
