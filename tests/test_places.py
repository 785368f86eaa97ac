"""level and stands: both tell a height of a place, and refuse alike."""

import unittest

from tests.lines import GREATEST, asked, begins, level, stands

CALLS = (level, stands)


class PlacesTold(unittest.TestCase):
    def test_each_place(self):
        for call in CALLS:
            with self.subTest(call=call.__name__):
                told = [call(place, place * 100) for place in range(6)]
                self.assertEqual(asked(begins(2, 3), *told), [0] * 7)

    def test_heights_from_0_to_1000(self):
        for call in CALLS:
            for high in (0, 1, 999, 1000):
                with self.subTest(call=call.__name__, high=high):
                    self.assertEqual(asked(begins(), call(3, high)), [0, 0])

    def test_a_place_told_again(self):
        for call in CALLS:
            with self.subTest(call=call.__name__):
                self.assertEqual(asked(begins(), call(3, 7), call(3, 1000), call(3, 0)), [0, 0, 0, 0])


class PlacesRefused(unittest.TestCase):
    def test_no_such_place(self):
        for call in CALLS:
            for place in (6, 7, 8, GREATEST):
                with self.subTest(call=call.__name__, place=place):
                    self.assertEqual(asked(begins(2, 3), call(place, 0)), [0, -2])

    def test_above_1000(self):
        for call in CALLS:
            for high in (1001, GREATEST):
                with self.subTest(call=call.__name__, high=high):
                    self.assertEqual(asked(begins(), call(0, high)), [0, -1])

    def test_no_such_place_is_told_ahead_of_above_1000(self):
        for call in CALLS:
            with self.subTest(call=call.__name__):
                self.assertEqual(
                    asked(begins(2, 3), call(6, 1001), call(GREATEST, GREATEST)), [0, -2, -2]
                )

    def test_a_refusal_ends_nothing(self):
        for call in CALLS:
            with self.subTest(call=call.__name__):
                self.assertEqual(
                    asked(begins(2, 3), call(6, 1), call(5, 1001), call(5, 1000)), [0, -2, -1, 0]
                )
