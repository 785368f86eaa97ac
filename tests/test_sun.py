"""In the sun: what takes the light away, shown by how many hours a plant has."""

import unittest

from tests.lines import begins, check, hour, last, level, plant, stands

# By whence: the places towards the sun from each place that has any, one behind another.
TWO_BY_THREE = (
    {3: (0,), 4: (1,), 5: (2,)},
    {3: (1,), 4: (2,)},
    {0: (1, 2), 1: (2,), 3: (4, 5), 4: (5,)},
    {0: (4,), 1: (5,)},
    {0: (3,), 1: (4,), 2: (5,)},
    {1: (3,), 2: (4,)},
    {1: (0,), 2: (1, 0), 4: (3,), 5: (4, 3)},
    {4: (0,), 5: (1,)},
)
THREE_BY_TWO = (
    {2: (0,), 3: (1,), 4: (2, 0), 5: (3, 1)},
    {2: (1,), 4: (3,)},
    {0: (1,), 2: (3,), 4: (5,)},
    {0: (3,), 2: (5,)},
    {0: (2, 4), 1: (3, 5), 2: (4,), 3: (5,)},
    {1: (2,), 3: (4,)},
    {1: (0,), 3: (2,), 5: (4,)},
    {3: (0,), 5: (2,)},
)
ONE_BY_FIVE = (
    {}, {}, {0: (1, 2, 3, 4), 1: (2, 3, 4), 2: (3, 4), 3: (4,)}, {},
    {}, {}, {1: (0,), 2: (1, 0), 3: (2, 1, 0), 4: (3, 2, 1, 0)}, {},
)
FIVE_BY_ONE = (
    {1: (0,), 2: (1, 0), 3: (2, 1, 0), 4: (3, 2, 1, 0)}, {}, {}, {},
    {0: (1, 2, 3, 4), 1: (2, 3, 4), 2: (3, 4), 3: (4,)}, {}, {}, {},
)
GARDENS = ((2, 3, TWO_BY_THREE), (3, 2, THREE_BY_TWO), (1, 5, ONE_BY_FIVE), (5, 1, FIVE_BY_ONE))


def hours_had(place, *told, high=10):
    """How many hours, of 7 at most, a plant has at a place; it needs 8, so that it is told."""
    answer = last(*told, plant(high=high, hours=8), check(place))
    if answer[:3] != [-6, 1, 0]:
        raise AssertionError(f"not told how many hours: {answer}")
    return answer[3]


def ways_of_light():
    """Every place, whence, and place towards the sun with the steps that lead there."""
    for rows, columns, table in GARDENS:
        for whence in range(8):
            for place in range(rows * columns):
                yield rows, columns, whence, place, table[whence].get(place, ())


class TowardsTheSun(unittest.TestCase):
    def test_only_what_is_towards_the_sun_takes_light_away(self):
        for rows, columns, whence, place, towards in ways_of_light():
            for wall in range(rows * columns):
                if wall == place:
                    continue
                with self.subTest(rows=rows, columns=columns, whence=whence, place=place, wall=wall):
                    told = [begins(rows, columns), hour(whence, 0), stands(wall, 1000)]
                    self.assertEqual(hours_had(place, *told), 0 if wall in towards else 1)

    def test_light_that_is_just_not_taken_away_and_one_more(self):
        for rows, columns, whence, place, towards in ways_of_light():
            for steps, wall in enumerate(towards, start=1):
                with self.subTest(rows=rows, columns=columns, whence=whence, place=place, wall=wall):
                    told = [begins(rows, columns), hour(whence, 7)]
                    self.assertEqual(hours_had(place, *told, stands(wall, 10 + 7 * steps)), 1)
                    self.assertEqual(hours_had(place, *told, stands(wall, 11 + 7 * steps)), 0)

    def test_the_largest_gardens_from_end_to_end(self):
        for rows, columns, whence, place, wall in ((1, 8, 2, 0, 7), (1, 8, 6, 7, 0), (8, 1, 4, 0, 7), (8, 1, 0, 7, 0)):
            with self.subTest(rows=rows, columns=columns, whence=whence):
                told = [begins(rows, columns), hour(whence, 3)]
                self.assertEqual(hours_had(place, *told, stands(wall, 31)), 1)
                self.assertEqual(hours_had(place, *told, stands(wall, 32)), 0)

    def test_one_place_alone_has_all_hours(self):
        self.assertEqual(hours_had(0, *[hour(whence, 0) for whence in range(7)]), 7)
        self.assertEqual(hours_had(0, hour(7, 0)), 1)


class WhatTakesLightAway(unittest.TestCase):
    # A row of four with the sun from the right: the plant, 10 high, is at place 0.
    ROW = [begins(1, 4), hour(2, 0)]

    def test_what_stands(self):
        self.assertEqual(hours_had(0, *self.ROW, stands(1, 10)), 1)
        self.assertEqual(hours_had(0, *self.ROW, stands(1, 11)), 0)

    def test_a_level(self):
        self.assertEqual(hours_had(0, *self.ROW, level(2, 10)), 1)
        self.assertEqual(hours_had(0, *self.ROW, level(2, 11)), 0)

    def test_level_and_what_stands_together(self):
        self.assertEqual(hours_had(0, *self.ROW, level(3, 4), stands(3, 6)), 1)
        self.assertEqual(hours_had(0, *self.ROW, level(3, 4), stands(3, 7)), 0)
        self.assertEqual(hours_had(0, *self.ROW, level(3, 5), stands(3, 6)), 0)

    def test_the_plant_s_own_level_and_height_together(self):
        self.assertEqual(hours_had(0, *self.ROW, stands(1, 30), level(0, 20)), 1)
        self.assertEqual(hours_had(0, *self.ROW, stands(1, 30), level(0, 19)), 0)
        self.assertEqual(hours_had(0, *self.ROW, stands(1, 30), level(0, 19), high=11), 1)

    def test_another_plant(self):
        told = [*self.ROW, plant(high=10, hours=1)]
        self.assertEqual(last(*told, plant(high=10, hours=0), check(0, 1)), [0, 200, 2])
        self.assertEqual(last(*told, plant(high=11, hours=0), check(0, 1)), [-6, 1, 0, 0])
        self.assertEqual(last(*told, plant(high=11, hours=0), check(1, 0)), [0, 200, 2])
        self.assertEqual(last(*told, plant(high=11, hours=0), check(0, 4)), [0, 100, 0])

    def test_another_plant_and_the_level_it_is_planted_on(self):
        told = [*self.ROW, level(3, 5), plant(high=10, hours=1)]
        self.assertEqual(last(*told, plant(high=5, hours=0), check(0, 3)), [0, 200, 6])
        self.assertEqual(last(*told, plant(high=6, hours=0), check(0, 3)), [-6, 1, 0, 0])

    def test_a_later_plant_shaded_by_an_earlier_one(self):
        told = [*self.ROW, plant(high=11, hours=1), plant(high=10, hours=1)]
        self.assertEqual(last(*told, check(1, 0)), [-6, 1, 1, 0])
        self.assertEqual(last(*told, check(0, 1)), [0, 200, 2])

    def test_a_third_plant_between_takes_no_light_from_behind_it(self):
        told = [begins(1, 4), hour(2, 5), plant(high=10, hours=1), plant(high=15, hours=1), plant(high=20, hours=1)]
        self.assertEqual(last(*told, check(0, 1, 2)), [0, 300, 4])
        self.assertEqual(last(*told, check(0, 2, 1)), [-6, 1, 0, 0])

    def test_each_place_towards_the_sun_counts(self):
        low = [stands(1, 15), stands(2, 20), stands(3, 25)]
        self.assertEqual(hours_had(0, begins(1, 4), hour(2, 5), *low), 1)
        for place, high in ((1, 16), (2, 21), (3, 26)):
            with self.subTest(place=place):
                self.assertEqual(hours_had(0, begins(1, 4), hour(2, 5), *low, stands(place, high)), 0)

    def test_a_lower_place_between_hides_no_higher_one(self):
        self.assertEqual(hours_had(0, *self.ROW, stands(1, 1), stands(3, 11)), 0)

    def test_told_no_more(self):
        self.assertEqual(hours_had(0, *self.ROW, stands(1, 11), stands(1, 0)), 1)
        self.assertEqual(hours_had(0, *self.ROW, level(1, 11), level(1, 10)), 1)
        self.assertEqual(hours_had(0, *self.ROW, stands(1, 11), level(1, 0)), 0)
        self.assertEqual(hours_had(0, *self.ROW, level(1, 11), stands(1, 0)), 0)


class Rises(unittest.TestCase):
    def test_a_rise_of_0(self):
        told = [begins(1, 8), hour(2, 0)]
        self.assertEqual(hours_had(0, *told, *[stands(place, 10) for place in range(1, 8)]), 1)
        self.assertEqual(hours_had(0, *told, stands(7, 11)), 0)

    def test_a_rise_of_1000(self):
        told = [begins(1, 4), hour(2, 1000)]
        self.assertEqual(hours_had(0, *told, level(1, 1000), stands(1, 1), high=1), 1)
        self.assertEqual(hours_had(0, *told, level(1, 1000), stands(1, 2), high=1), 0)
        self.assertEqual(hours_had(0, *told, level(2, 1000), stands(2, 1000), high=1), 1)
        self.assertEqual(hours_had(0, *told, level(1, 1000), stands(1, 1000), high=1), 0)
        self.assertEqual(hours_had(0, *told, level(1, 1000), stands(1, 1000), high=1000), 1)

    def test_the_hour_s_own_rise(self):
        told = [begins(1, 2), stands(1, 15)]
        self.assertEqual(hours_had(0, *told, hour(2, 4)), 0)
        self.assertEqual(hours_had(0, *told, hour(2, 5)), 1)
        self.assertEqual(hours_had(0, *told, hour(2, 4), hour(2, 5), hour(2, 6)), 2)


class SeveralHours(unittest.TestCase):
    def test_hours_in_the_sun_are_counted(self):
        # Around place 1 of two rows of three stand walls at 0, 4 and 5: whence 6, 4 and 3.
        told = [begins(2, 3), stands(0, 50), stands(4, 50), stands(5, 50)]
        self.assertEqual(hours_had(1, *told, *[hour(whence, 0) for whence in range(7)]), 4)

    def test_the_same_hour_twice_counts_twice(self):
        self.assertEqual(hours_had(0, begins(), hour(0, 0), hour(0, 0), hour(0, 0)), 3)

    def test_eight_hours_all_in_the_sun(self):
        told = [begins(2, 3), *[hour(whence, 0) for whence in range(8)]]
        self.assertEqual(last(*told, plant(hours=8), check(0)), [0, 100, 0])
        self.assertEqual(last(*told, stands(4, 11), plant(hours=8), check(0)), [-6, 1, 0, 7])

    def test_begins_sets_hours_levels_and_what_stands_back(self):
        told = [begins(1, 2), hour(2, 0), hour(2, 0), level(1, 9), stands(1, 9), begins(1, 2), hour(2, 0)]
        self.assertEqual(hours_had(0, *told), 1)
