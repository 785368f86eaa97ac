"""What a garden keeps of what it was told, and that a refusal leaves all of it as it was."""

import copy
import unittest

from sunbeds.garden import Garden


def kept(garden):
    """All that a garden keeps, as plain values that stay as they are."""
    values = copy.deepcopy(vars(garden))
    values["hours"] = [vars(hour) for hour in values["hours"]]
    values["plants"] = [vars(plant) for plant in values["plants"]]
    return values


def told_garden():
    garden = Garden()
    garden.begins(2, 3, 5, 8)
    garden.level(4, 20)
    garden.stands(1, 30)
    garden.hour(6, 7)
    garden.plant(40, 1, 500, 2, 3)
    garden.like(4, 2, 6)
    garden.dislike(3, 3, 9)
    garden.tap(5)
    return garden


class GardenKeeps(unittest.TestCase):
    def test_the_beginning(self):
        self.assertEqual(kept(Garden()), {
            "rows": 1, "columns": 1, "places": 1, "can": 1, "longest_way": 0, "tap_place": 0,
            "levels": [0], "heights": [0], "hours": [], "plants": [], "likings": {},
        })

    def test_all_that_is_told(self):
        self.assertEqual(kept(told_garden()), {
            "rows": 2, "columns": 3, "places": 6, "can": 5, "longest_way": 8, "tap_place": 5,
            "levels": [0, 0, 0, 0, 20, 0], "heights": [0, 30, 0, 0, 0, 0],
            "hours": [{"whence": 6, "rise": 7}],
            "plants": [{"high": 40, "needed_hours": 1, "worth": 500, "kind": 2, "water": 3}],
            "likings": {(2, 4): 6, (3, 3): -9},
        })

    def test_what_was_told_of_a_place_before_is_told_no_more(self):
        garden = told_garden()
        garden.level(4, 21)
        garden.stands(1, 0)
        garden.level(1, 9)
        garden.stands(4, 8)
        self.assertEqual(garden.levels, [0, 9, 0, 0, 21, 0])
        self.assertEqual(garden.heights, [0, 0, 0, 0, 8, 0])

    def test_begins_sets_all_back(self):
        garden = told_garden()
        self.assertEqual(garden.begins(4, 2, 1000, 1000), 0)
        self.assertEqual(kept(garden), {
            "rows": 4, "columns": 2, "places": 8, "can": 1000, "longest_way": 1000, "tap_place": 0,
            "levels": [0] * 8, "heights": [0] * 8, "hours": [], "plants": [], "likings": {},
        })


class GardenRefusedIsAsItWas(unittest.TestCase):
    def assert_refused(self, garden, refusal, call, *numbers):
        before = kept(garden)
        with self.subTest(call=call, numbers=numbers):
            self.assertEqual(getattr(garden, call)(*numbers), refusal)
            self.assertEqual(kept(garden), before)

    def test_wrong_numbers(self):
        garden = told_garden()
        for numbers in ((0, 1, 1, 0), (1, 0, 1, 0), (3, 3, 1, 0), (1, 1, 0, 0), (1, 1, 1001, 0), (1, 1, 1, 1001)):
            self.assert_refused(garden, -1, "begins", *numbers)
        for call in ("level", "stands"):
            self.assert_refused(garden, -2, call, 6, 1)
            self.assert_refused(garden, -1, call, 1, 1001)
            self.assert_refused(garden, -1, call, 4, 1001)
        self.assert_refused(garden, -1, "hour", 8, 0)
        self.assert_refused(garden, -1, "hour", 0, 1001)
        for numbers in ((0, 0, 0, 1, 1), (1, 9, 0, 1, 1), (1, 0, 100001, 1, 1), (1, 0, 0, 6, 1), (1, 0, 0, 1, 6)):
            self.assert_refused(garden, -1, "plant", *numbers)
        for call in ("like", "dislike"):
            for numbers in ((0, 2, 1), (6, 2, 1), (4, 0, 1), (4, 6, 1), (4, 2, 10), (3, 3, 10)):
                self.assert_refused(garden, -1, call, *numbers)
        self.assert_refused(garden, -2, "tap", 6)

    def test_no_more_hours_or_plants(self):
        garden = told_garden()
        for whence in range(7):
            garden.hour(whence, 3)
        garden.plant(1, 0, 0, 1, 1)
        garden.plant(2, 0, 0, 1, 1)
        self.assert_refused(garden, -5, "hour", 0, 0)
        self.assert_refused(garden, -5, "plant", 3, 0, 0, 1, 1)
