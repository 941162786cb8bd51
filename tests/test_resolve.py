"""Promise 9: resolve."""

import unittest

from tests.helper import (
    BASE, HUGE, KIND, LIMIT, NONE, PLATFORM, STEPS, TWICE, last, places, platform, rank, resolve, tell, toolchain,
)


class ResolveTest(unittest.TestCase):
    def test_the_first_place_that_is_served(self):
        base = (*STEPS, places(0, 1, 2))
        self.assertEqual(last(*base, resolve(0, [4])), [0, 0])
        self.assertEqual(last(*base, resolve(0, [4, 5])), [1, 0, 1])
        self.assertEqual(last(*base, resolve(0, [4, 5, 6])), [2, 0, 1, 2])

    def test_first_by_the_order_of_the_places_not_by_number(self):
        base = (*STEPS, places(2, 0, 1))
        self.assertEqual(last(*base, resolve(0, [4])), [2, 0])
        self.assertEqual(last(*STEPS, places(0, 2, 1), resolve(0, [5])), [2, 1])

    def test_every_kind_must_be_there_at_one_place(self):
        base = (*BASE, toolchain(4, [0, 0]), toolchain(5, [0, 1]), rank(0, 1), places(0, 1, 2))
        self.assertEqual(last(*base, resolve(0, [4])), [0, 0])
        self.assertEqual(last(*base, resolve(0, [5])), [1, 1])
        self.assertEqual(last(*base, resolve(0, [4, 5])), [NONE])

    def test_toolchains_stand_in_the_order_of_the_kinds(self):
        base = (*STEPS, places(2))
        self.assertEqual(last(*base, resolve(0, [6, 4, 5])), [2, 2, 0, 1])
        self.assertEqual(last(*base, resolve(0, [6], [5, 4])), [2, 2, 1, 0])

    def test_the_best_ranked_one_at_that_place_is_told(self):
        base = (*BASE, toolchain(4), toolchain(4, [0, 1]), toolchain(5, [0, 1]), places(0, 1))
        self.assertEqual(last(*base, rank(1, 0, 2), resolve(0, [4])), [0, 0])
        self.assertEqual(last(*base, rank(1, 0, 2), resolve(0, [4, 5])), [1, 1, 2])
        self.assertEqual(last(*base, rank(0, 1, 2), resolve(0, [4, 5])), [1, 0, 2])

    def test_a_wish_never_matters_for_the_place(self):
        base = (*STEPS, places(0, 1, 2))
        self.assertEqual(last(*base, resolve(0, [4], [5])), [0, 0, -1])
        self.assertEqual(last(*base, resolve(0, [4], [6, 4, 5])), [0, 0, -1, 0, -1])
        self.assertEqual(last(*base, resolve(0, [5], [6, 4, 30])), [1, 1, -1, 0, -1])
        self.assertEqual(last(*base, resolve(0, [], [6])), [0, -1])

    def test_a_wish_may_be_a_kind_too(self):
        self.assertEqual(last(*STEPS, places(1), resolve(0, [4, 5], [5, 4])), [1, 0, 1, 1, 0])

    def test_a_wish_does_not_mend_a_kind_that_is_lacking(self):
        self.assertEqual(last(*STEPS, places(0), resolve(0, [5], [4])), [NONE])

    def test_without_kinds_the_first_place_is_served(self):
        self.assertEqual(last(*STEPS, places(2, 1), resolve(0)), [2])
        self.assertEqual(last(*BASE, places(1), resolve(0)), [1])
        self.assertEqual(last(*BASE, places(1), resolve(0, [], [3])), [1, -1])

    def test_without_places_none_is_served(self):
        self.assertEqual(last(*STEPS, resolve(0, [4])), [NONE])
        self.assertEqual(last(*STEPS, resolve(0)), [NONE])
        self.assertEqual(last(*STEPS, places(0), places(), resolve(0, [], [4])), [NONE])

    def test_without_a_ranking_no_kind_is_served(self):
        self.assertEqual(last(*BASE, toolchain(4), places(0), resolve(0, [4])), [NONE])

    def test_the_second_need_is_the_targets(self):
        base = (*BASE, toolchain(4, [0, 1], [0, 2]), toolchain(4, [0, 0], [0, 1]), rank(0, 1), places(0, 1, 2))
        told = [last(*base, resolve(target, [4])) for target in range(3)]
        self.assertEqual(told, [[NONE], [0, 1], [1, 0]])

    def test_all_kinds_at_once(self):
        base = (platform(), *[toolchain(31 - number) for number in range(32)], rank(*range(32)), places(0))
        kinds = list(range(32))
        self.assertEqual(last(*base, resolve(0, kinds, kinds)), [0] + kinds[::-1] * 2)

    def test_a_target_that_is_none(self):
        for number in (3, -1, HUGE, -HUGE):
            self.assertEqual(last(*STEPS, places(0), resolve(number, [4])), [PLATFORM], number)
        self.assertEqual(tell(resolve(0)), [[PLATFORM]])

    def test_limit_then_each_then_twice_of_either_list(self):
        wrong_rows = [
            (LIMIT, [0] * 65), (LIMIT, [-HUGE] * 100), (TWICE, [0] * 64), (KIND, [0] * 63 + [32]),
            (KIND, [3, 3, -1]), (TWICE, [3, 4, 3]), (KIND, [HUGE]), (KIND, [-HUGE]),
        ]
        for refusal, row in wrong_rows:
            self.assertEqual(last(*STEPS, places(0), resolve(0, row, [4])), [refusal], row)
            self.assertEqual(last(*STEPS, places(0), resolve(0, [4], row)), [refusal], row)

    def test_what_is_looked_at_first(self):
        base = (*STEPS, places(0))
        wrong_first = [
            (PLATFORM, resolve(3, [0] * 65, [32])),
            (LIMIT, resolve(0, [0] * 65, [32])),
            (KIND, resolve(0, [32], [0] * 65)),
            (TWICE, resolve(0, [5, 5], [0] * 65)),
            (TWICE, resolve(0, [5, 5], [32])),
            (LIMIT, resolve(0, [5], [0] * 65)),
            (KIND, resolve(0, [5], [4, 32])),
            (TWICE, resolve(0, [5], [4, 4])),
            (NONE, resolve(0, [5], [4])),
        ]
        for refusal, call in wrong_first:
            self.assertEqual(last(*base, call), [refusal], call)


if __name__ == "__main__":
    unittest.main()
