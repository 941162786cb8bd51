"""Promise 12: alike."""

import unittest

from tests.helper import HUGE, PLATFORM, alike, answers, joined, last, platform, setting, tell


class AlikeTest(unittest.TestCase):
    def test_without_settings_all_are_alike(self):
        self.assertEqual(last(platform(), platform(), alike(0, 1)), [1])

    def test_a_platform_is_like_itself(self):
        self.assertEqual(last(setting(3), setting(2), platform(-1, [0, 2]), alike(0, 0)), [1])

    def test_the_same_values_and_other_values(self):
        base = (setting(3), platform(-1, [0, 2]), platform(-1, [0, 2]), platform(-1, [0, 1]))
        self.assertEqual(tell(*base, alike(0, 1), alike(1, 0), alike(0, 2), alike(2, 0))[4:], [[1], [1], [0], [0]])

    def test_both_without_a_value(self):
        self.assertEqual(last(setting(3), platform(), platform(), alike(0, 1)), [1])

    def test_a_value_and_none(self):
        for v in range(3):
            base = (setting(3), platform(-1, [0, v]), platform())
            self.assertEqual(tell(*base, alike(0, 1), alike(1, 0))[3:], [[0], [0]], v)

    def test_every_setting_counts(self):
        for s in range(16):
            base = (*[setting(2)] * 16, platform(), platform(-1, [s, 0]), platform(-1, [s, 0]))
            self.assertEqual(tell(*base, alike(0, 1), alike(1, 2))[19:], [[0], [1]], s)

    def test_the_same_value_for_another_setting_is_not_alike(self):
        base = (setting(2), setting(2), platform(-1, [0, 1]), platform(-1, [1, 1]))
        self.assertEqual(last(*base, alike(0, 1)), [0])

    def test_the_order_of_the_pairs_is_no_matter(self):
        base = (setting(2), setting(2), platform(-1, [0, 1, 1, 0]), platform(-1, [1, 0, 0, 1]))
        self.assertEqual(last(*base, alike(0, 1)), [1])

    def test_values_of_parents_count(self):
        base = (setting(3), platform(-1, [0, 2]), platform(0), platform(1, [0, 1]), platform(2, [0, 2]))
        self.assertEqual(tell(*base, alike(0, 1), alike(0, 2), alike(1, 3))[5:], [[1], [0], [1]])

    def test_an_own_value_that_is_the_default(self):
        base = (setting(3, 1), platform(-1, [0, 1]), platform(), platform(-1, [0, 0]))
        self.assertEqual(tell(*base, alike(0, 1), alike(1, 2))[4:], [[1], [0]])

    def test_a_newer_setting_is_the_same_for_both(self):
        base = (platform(), platform(), setting(3, 1), setting(2))
        self.assertEqual(tell(*base, alike(0, 1), platform(-1, [1, 0]), alike(0, 2))[4:], [[1], [2], [0]])

    def test_whole_numbers_are_answered(self):
        told = answers(joined([setting(2), platform(), platform(-1, [0, 0]), alike(0, 0), alike(0, 1)]))
        self.assertEqual([type(number) for number in told], [int] * 10)

    def test_refusals(self):
        for number in (1, -1, HUGE, -HUGE):
            self.assertEqual(last(platform(), alike(number, 0)), [PLATFORM], number)
            self.assertEqual(last(platform(), alike(0, number)), [PLATFORM], number)
            self.assertEqual(last(platform(), alike(number, number)), [PLATFORM], number)
        self.assertEqual(tell(alike(0, 0)), [[PLATFORM]])


if __name__ == "__main__":
    unittest.main()
