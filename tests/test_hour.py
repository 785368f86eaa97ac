import unittest

from tests.lines import GREATEST, asked, begins, hour


class HourAnswers(unittest.TestCase):
    def test_each_whence_and_the_number_of_each_hour(self):
        self.assertEqual(asked(*[hour(whence, 10) for whence in range(8)]), list(range(8)))

    def test_rises_from_0_to_1000(self):
        self.assertEqual(asked(hour(7, 0), hour(7, 1), hour(7, 999), hour(7, 1000)), [0, 1, 2, 3])

    def test_two_hours_alike_are_two(self):
        self.assertEqual(asked(begins(), hour(2, 5), hour(2, 5)), [0, 0, 1])


class HourRefuses(unittest.TestCase):
    def test_whence_above_7(self):
        for whence in (8, 9, GREATEST):
            with self.subTest(whence=whence):
                self.assertEqual(asked(hour(whence, 0)), [-1])

    def test_rise_above_1000(self):
        for rise in (1001, GREATEST):
            with self.subTest(rise=rise):
                self.assertEqual(asked(hour(0, rise)), [-1])

    def test_the_ninth(self):
        self.assertEqual(asked(*[hour()] * 10), [0, 1, 2, 3, 4, 5, 6, 7, -5, -5])

    def test_a_wrong_number_is_told_ahead_of_the_ninth(self):
        self.assertEqual(
            asked(*[hour()] * 8, hour(8, 0), hour(0, 1001), hour(GREATEST, GREATEST), hour(7, 1000)),
            [0, 1, 2, 3, 4, 5, 6, 7, -1, -1, -1, -5],
        )

    def test_a_refused_hour_takes_no_number(self):
        self.assertEqual(asked(hour(), hour(8, 0), hour(0, 1001), hour()), [0, -1, -1, 1])
