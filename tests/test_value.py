"""Promise 6: value."""

import unittest

from tests.helper import HUGE, PLATFORM, SETTING, last, platform, setting, tell, value


class ValueTest(unittest.TestCase):
    def test_own_ahead_of_the_parents_and_the_default(self):
        base = (setting(4, 3), platform(-1, [0, 1]), platform(0, [0, 2]))
        self.assertEqual(tell(*base, value(0, 0), value(1, 0))[3:], [[1, 1], [1, 2]])

    def test_an_own_value_of_0(self):
        self.assertEqual(last(setting(4, 3), platform(-1, [0, 1]), platform(0, [0, 0]), value(1, 0)), [1, 0])

    def test_from_the_parent_and_its_parent(self):
        base = (setting(4, 3), platform(-1, [0, 1]), platform(0), platform(1))
        self.assertEqual(tell(*base, value(1, 0), value(2, 0))[4:], [[1, 1], [1, 1]])

    def test_the_nearest_one_counts(self):
        base = (setting(4), platform(-1, [0, 1]), platform(0, [0, 2]), platform(1), platform(0))
        self.assertEqual(tell(*base, value(2, 0), value(3, 0))[5:], [[1, 2], [1, 1]])

    def test_a_parents_value_is_not_changed_by_its_children(self):
        base = (setting(4), platform(-1, [0, 1]), platform(0, [0, 2]), platform(0))
        self.assertEqual(tell(*base, value(0, 0), value(2, 0))[4:], [[1, 1], [1, 1]])

    def test_through_fifteen_parents(self):
        base = (setting(4), platform(-1, [0, 1]), *[platform(parent) for parent in range(15)])
        self.assertEqual(last(*base, value(15, 0)), [1, 1])

    def test_the_default_where_no_parent_has_one(self):
        base = (setting(4, 3), platform(), platform(0), platform(1))
        self.assertEqual(tell(*base, value(0, 0), value(2, 0))[4:], [[1, 3], [1, 3]])

    def test_none(self):
        base = (setting(4), platform(), platform(0), platform(1))
        self.assertEqual(tell(*base, value(0, 0), value(2, 0))[4:], [[0], [0]])

    def test_each_setting_by_itself(self):
        base = (setting(4), setting(4, 3), setting(4), platform(-1, [0, 1]), platform(0, [2, 2]))
        self.assertEqual(tell(*base, *[value(1, s) for s in range(3)])[5:], [[1, 1], [1, 3], [1, 2]])

    def test_a_setting_newer_than_the_platform(self):
        base = (platform(), platform(0), setting(4, 2), setting(4))
        self.assertEqual(tell(*base, value(1, 0), value(1, 1))[4:], [[1, 2], [0]])

    def test_a_platform_is_no_other_platforms_parent_by_its_place(self):
        self.assertEqual(last(setting(4), platform(-1, [0, 1]), platform(-1), value(1, 0)), [0])

    def test_refusals(self):
        for number in (1, -1, HUGE, -HUGE):
            self.assertEqual(last(setting(2, 0), platform(), value(number, 0)), [PLATFORM], number)
            self.assertEqual(last(setting(2, 0), platform(), value(0, number)), [SETTING], number)
            self.assertEqual(last(setting(2, 0), platform(), value(number, number)), [PLATFORM], number)
        self.assertEqual(tell(value(0, 0)), [[PLATFORM]])


if __name__ == "__main__":
    unittest.main()
