"""Promise 1: setting."""

import unittest

from tests.helper import FULL, HUGE, LIMIT, last, platform, setting, tell, value


class SettingTest(unittest.TestCase):
    def test_numbers_go_up_from_0(self):
        self.assertEqual(tell(setting(2), setting(3, 1), setting(1, 0)), [[0], [1], [2]])

    def test_counts_1_and_16_are_taken(self):
        for count in (1, 2, 15, 16):
            self.assertEqual(tell(setting(count)), [[0]], count)

    def test_counts_outside_are_refused(self):
        for count in (0, 17, -1, -16, HUGE, -HUGE):
            self.assertEqual(tell(setting(count)), [[LIMIT]], count)

    def test_defaults_from_none_to_the_last_value_are_taken(self):
        for count in (1, 5, 16):
            for default in range(-1, count):
                self.assertEqual(tell(setting(count, default)), [[0]], (count, default))

    def test_defaults_outside_are_refused(self):
        for count in (1, 5, 16):
            for default in (-2, count, count + 1, HUGE, -HUGE):
                self.assertEqual(tell(setting(count, default)), [[LIMIT]], (count, default))

    def test_a_default_does_not_mend_a_wrong_count(self):
        self.assertEqual(tell(setting(0, -1), setting(17, 16), setting(17, 0)), [[LIMIT]] * 3)

    def test_the_default_is_kept(self):
        self.assertEqual(last(setting(5, 3), platform(), value(0, 0)), [1, 3])
        self.assertEqual(last(setting(5, 0), platform(), value(0, 0)), [1, 0])
        self.assertEqual(last(setting(16, 15), platform(), value(0, 0)), [1, 15])

    def test_no_default_where_it_is_minus_1(self):
        self.assertEqual(last(setting(5, -1), platform(), value(0, 0)), [0])

    def test_sixteen_settings_and_no_more(self):
        told = tell(*[setting(2)] * 18)
        self.assertEqual(told, [[number] for number in range(16)] + [[FULL], [FULL]])

    def test_limit_ahead_of_full(self):
        told = tell(*[setting(2)] * 16, setting(0), setting(17), setting(2, 2), setting(2, -2), setting(2))
        self.assertEqual(told[16:], [[LIMIT]] * 4 + [[FULL]])

    def test_a_refused_one_takes_no_number(self):
        told = tell(setting(0), setting(2), setting(2, 2), setting(2))
        self.assertEqual(told, [[LIMIT], [0], [LIMIT], [1]])


if __name__ == "__main__":
    unittest.main()
