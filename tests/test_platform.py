"""Promise 2: platform."""

import unittest

from tests.helper import (
    FULL, HUGE, LIMIT, PLATFORM, SETTING, TWICE, VALUE, last, platform, setting, tell, value,
)


class PlatformTest(unittest.TestCase):
    def test_numbers_go_up_from_0(self):
        self.assertEqual(tell(platform(), platform(0), platform(-1)), [[0], [1], [2]])

    def test_parents_that_are_none(self):
        for parent in (0, 1, -2, HUGE, -HUGE):
            self.assertEqual(tell(platform(parent)), [[PLATFORM]], parent)
        for parent in (1, 2, -2, HUGE, -HUGE):
            self.assertEqual(last(platform(), platform(parent)), [PLATFORM], parent)

    def test_lists_that_are_too_long_or_odd(self):
        for length in (1, 3, 63, 65, 66, 99, 100):
            self.assertEqual(last(setting(2), platform(-1, [0] * length)), [LIMIT], length)

    def test_a_list_of_64_is_looked_into(self):
        self.assertEqual(last(setting(2), platform(-1, [0] * 64)), [TWICE])
        self.assertEqual(last(setting(2), platform(-1, [0] * 62 + [1, 0])), [SETTING])

    def test_settings_that_are_none(self):
        self.assertEqual(tell(platform(-1, [0, 0])), [[SETTING]])
        for number in (1, -1, HUGE, -HUGE):
            self.assertEqual(last(setting(2), platform(-1, [number, 0])), [SETTING], number)

    def test_values_that_are_none(self):
        for number in (2, -1, 16, HUGE, -HUGE):
            self.assertEqual(last(setting(2), setting(3), platform(-1, [1, 2, 0, number])), [VALUE], number)

    def test_a_value_is_measured_by_its_own_setting(self):
        self.assertEqual(last(setting(2), setting(3), platform(-1, [1, 2])), [0])
        self.assertEqual(last(setting(2), setting(3), platform(-1, [0, 2])), [VALUE])

    def test_pair_by_pair(self):
        base = (setting(2),)
        self.assertEqual(last(*base, platform(-1, [0, 2, 1, 0])), [VALUE])
        self.assertEqual(last(*base, platform(-1, [1, 0, 0, 2])), [SETTING])
        self.assertEqual(last(*base, platform(-1, [1, 2])), [SETTING])

    def test_one_setting_twice(self):
        self.assertEqual(last(setting(2), platform(-1, [0, 0, 0, 1])), [TWICE])
        self.assertEqual(last(setting(2), platform(-1, [0, 1, 0, 1])), [TWICE])
        self.assertEqual(last(setting(2), setting(2), platform(-1, [0, 1, 1, 1, 0, 0])), [TWICE])

    def test_one_value_for_two_settings_is_not_twice(self):
        self.assertEqual(last(setting(2), setting(2), platform(-1, [0, 1, 1, 1])), [0])
        self.assertEqual(last(setting(2), setting(2), platform(-1, [1, 0, 0, 1])), [0])

    def test_own_values_for_all_settings(self):
        own = [number for s in range(16) for number in (s, 15 - s)]
        told = tell(*[setting(16)] * 16, platform(-1, own), *[value(0, s) for s in range(16)])
        self.assertEqual(told[16:], [[0]] + [[1, 15 - s] for s in range(16)])

    def test_sixteen_platforms_and_no_more(self):
        told = tell(*[platform()] * 18)
        self.assertEqual(told, [[number] for number in range(16)] + [[FULL], [FULL]])

    def test_what_is_looked_at_first(self):
        base = (setting(2), *[platform()] * 16)
        wrong_first = [
            (PLATFORM, platform(16, [0])),
            (PLATFORM, platform(16, [1, 0])),
            (LIMIT, platform(-1, [7])),
            (LIMIT, platform(-1, [7] * 66)),
            (SETTING, platform(15, [0, 0, 0, 0, 1, 0])),
            (VALUE, platform(15, [0, 0, 0, 2])),
            (TWICE, platform(15, [0, 0, 0, 0])),
            (FULL, platform(15, [0, 0])),
        ]
        for refusal, call in wrong_first:
            self.assertEqual(last(*base, call), [refusal], call)

    def test_a_refused_one_takes_no_number_and_gives_no_value(self):
        told = tell(
            setting(2), platform(), platform(1), platform(0, [0, 1, 0, 0]), platform(0, [0, 1, 0]),
            platform(0, [0, 1, 0, 2]), value(0, 0), platform(0), value(1, 0),
        )
        self.assertEqual(told, [[0], [0], [PLATFORM], [TWICE], [LIMIT], [VALUE], [0], [1], [0]])


if __name__ == "__main__":
    unittest.main()
