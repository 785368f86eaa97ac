import unittest

from tests.lines import GREATEST, asked, begins, plant

EDGES = {
    "high": (1, 1000),
    "hours": (0, 8),
    "worth": (0, 100000),
    "kind": (1, 5),
    "water": (1, 5),
}
BEYOND = {
    "high": (0, 1001, GREATEST),
    "hours": (9, GREATEST),
    "worth": (100001, GREATEST),
    "kind": (0, 6, GREATEST),
    "water": (0, 6, GREATEST),
}
WRONG = [plant(**{name: number}) for name in BEYOND for number in BEYOND[name]]


class PlantAnswers(unittest.TestCase):
    def test_the_number_of_each_plant(self):
        self.assertEqual(
            asked(begins(), plant(30, 2, 50, 1, 2), plant(20, 0, 70, 5, 5), plant(1, 8, 0, 3, 1)),
            [0, 0, 1, 2],
        )

    def test_the_least_and_the_greatest_of_each_number(self):
        for name in EDGES:
            for number in EDGES[name]:
                with self.subTest(name=name, number=number):
                    self.assertEqual(asked(begins(can=5), plant(**{name: number})), [0, 0])

    def test_all_least_and_all_greatest(self):
        self.assertEqual(
            asked(begins(can=1000), plant(1, 0, 0, 1, 1), plant(1000, 8, 100000, 5, 1000)), [0, 0, 1]
        )

    def test_two_plants_alike_are_two(self):
        self.assertEqual(asked(plant(), plant()), [0, 1])

    def test_more_plants_than_places(self):
        self.assertEqual(asked(begins(1, 1), plant(), plant(), plant()), [0, 0, 1, 2])


class PlantRefuses(unittest.TestCase):
    def test_a_number_beyond(self):
        for wrong in WRONG:
            with self.subTest(wrong=wrong):
                self.assertEqual(asked(begins(can=5), wrong), [0, -1])

    def test_all_numbers_beyond(self):
        self.assertEqual(asked(begins(), plant(*[GREATEST] * 5)), [0, -1])

    def test_more_water_than_the_can_holds(self):
        for can in (1, 7, 999, 1000):
            with self.subTest(can=can):
                self.assertEqual(
                    asked(begins(can=can), plant(water=can + 1), plant(water=can)), [0, -1, 0]
                )

    def test_the_fourth(self):
        self.assertEqual(asked(*[plant()] * 5), [0, 1, 2, -5, -5])

    def test_a_wrong_number_is_told_ahead_of_the_fourth(self):
        for wrong in WRONG:
            with self.subTest(wrong=wrong):
                self.assertEqual(
                    asked(begins(can=5), plant(), plant(), plant(), wrong, plant()), [0, 0, 1, 2, -1, -5]
                )

    def test_a_refused_plant_takes_no_number(self):
        for wrong in WRONG:
            with self.subTest(wrong=wrong):
                self.assertEqual(asked(begins(can=5), plant(), wrong, plant()), [0, 0, -1, 1])
