import unittest

from tests.lines import GREATEST, answered, asked, begins, check, last, plant, tap


def way_to(place, *told):
    """How long the way to the one plant at a place is."""
    return last(*told, plant(hours=0), check(place))[2]


class TapAnswers(unittest.TestCase):
    def test_each_place_of_each_garden(self):
        for rows, columns in ((1, 1), (2, 3), (3, 2), (2, 4), (1, 8), (8, 1)):
            places = rows * columns
            with self.subTest(rows=rows, columns=columns):
                self.assertEqual(asked(begins(rows, columns), *[tap(place) for place in range(places)]),
                                 [0] * (places + 1))

    def test_it_is_there(self):
        for place in range(8):
            with self.subTest(place=place):
                self.assertEqual(way_to(place, begins(1, 8, way=1000), tap(place)), 0)
                self.assertEqual(way_to(0, begins(1, 8, way=1000), tap(place)), 2 * place)

    def test_it_is_where_it_was_told_last(self):
        self.assertEqual(way_to(0, begins(1, 8, way=1000), tap(7), tap(2)), 4)

    def test_it_is_at_place_0_at_first(self):
        self.assertEqual(way_to(0), 0)
        self.assertEqual(way_to(7, begins(1, 8, way=1000)), 14)

    def test_begins_sets_it_back_to_place_0(self):
        self.assertEqual(way_to(0, begins(1, 8, way=1000), tap(7), begins(1, 8, way=1000)), 0)
        self.assertEqual(way_to(7, begins(1, 8, way=1000), tap(7), begins(1, 8, way=1000)), 14)


class TapRefuses(unittest.TestCase):
    def test_no_such_place(self):
        for rows, columns in ((1, 1), (2, 3), (3, 2), (2, 4), (1, 8), (8, 1)):
            places = rows * columns
            with self.subTest(rows=rows, columns=columns):
                self.assertEqual(
                    asked(begins(rows, columns), tap(places - 1), tap(places), tap(places + 1), tap(GREATEST)),
                    [0, 0, -2, -2, -2],
                )

    def test_at_the_beginning_there_is_one_place(self):
        self.assertEqual(asked(tap(0), tap(1)), [0, -2])

    def test_all_is_as_it_was(self):
        self.assertEqual(
            answered(begins(1, 8, way=1000), plant(hours=0), tap(5), tap(8), tap(GREATEST), check(0)),
            [[0], [0], [0], [-2], [-2], [0, 100, 10]],
        )

    def test_begins_refused_leaves_it(self):
        self.assertEqual(
            answered(begins(1, 8, way=1000), plant(hours=0), tap(5), begins(1, 9), check(0)),
            [[0], [0], [0], [-1], [0, 100, 10]],
        )
