import unittest

from tests.lines import GREATEST, asked, begins, hour, level, plant, stands


class BeginsAnswers(unittest.TestCase):
    def test_gardens_of_up_to_eight_places(self):
        for rows in range(1, 9):
            for columns in range(1, 8 // rows + 1):
                with self.subTest(rows=rows, columns=columns):
                    places = rows * columns
                    self.assertEqual(
                        asked(begins(rows, columns), level(places - 1, 1), level(places, 1)),
                        [0, 0, -2],
                    )

    def test_can_from_1_to_1000(self):
        for can in (1, 2, 999, 1000):
            with self.subTest(can=can):
                self.assertEqual(
                    asked(begins(can=can), plant(water=can), plant(water=can + 1)),
                    [0, 0, -1],
                )

    def test_way_from_0_to_1000(self):
        for way in (0, 1, 999, 1000):
            with self.subTest(way=way):
                self.assertEqual(asked(begins(way=way)), [0])


class BeginsRefuses(unittest.TestCase):
    def test_no_rows_or_no_columns(self):
        for rows, columns in ((0, 1), (1, 0), (0, 0), (0, 8), (8, 0), (0, GREATEST), (GREATEST, 0)):
            with self.subTest(rows=rows, columns=columns):
                self.assertEqual(asked(begins(rows, columns)), [-1])

    def test_more_than_eight_places(self):
        gardens = ((3, 3), (1, 9), (9, 1), (2, 5), (5, 2), (65536, 65536), (1, GREATEST),
                   (GREATEST, 1), (GREATEST, GREATEST))
        for rows, columns in gardens:
            with self.subTest(rows=rows, columns=columns):
                self.assertEqual(asked(begins(rows, columns)), [-1])

    def test_can_that_holds_nothing_or_more_than_1000(self):
        for can in (0, 1001, GREATEST):
            with self.subTest(can=can):
                self.assertEqual(asked(begins(can=can)), [-1])

    def test_way_above_1000(self):
        for way in (1001, GREATEST):
            with self.subTest(way=way):
                self.assertEqual(asked(begins(way=way)), [-1])

    def test_several_wrong_numbers(self):
        self.assertEqual(asked(begins(0, 9, 0, 1001)), [-1])
        self.assertEqual(asked(begins(GREATEST, GREATEST, GREATEST, GREATEST)), [-1])


class TheBeginningOfALine(unittest.TestCase):
    def test_one_place(self):
        self.assertEqual(asked(level(0, 5), level(1, 5), stands(0, 5), stands(1, 5)), [0, -2, 0, -2])

    def test_the_can_holds_one(self):
        self.assertEqual(asked(plant(water=1), plant(water=2)), [0, -1])

    def test_no_hours_and_no_plants(self):
        self.assertEqual(asked(hour(), plant()), [0, 0])


class BeginsSetsBack(unittest.TestCase):
    def test_hours_and_plants_are_numbered_from_0_again(self):
        self.assertEqual(
            asked(begins(), hour(), hour(), plant(), plant(), begins(), hour(), plant()),
            [0, 0, 1, 0, 1, 0, 0, 0],
        )

    def test_there_is_room_for_all_again(self):
        hours, plants = [hour()] * 9, [plant()] * 4
        told = [0, 1, 2, 3, 4, 5, 6, 7, -5, 0, 1, 2, -5]
        self.assertEqual(
            asked(begins(), *hours, *plants, begins(), *hours, *plants), [0, *told, 0, *told]
        )

    def test_places_and_can_are_those_told_last(self):
        self.assertEqual(
            asked(begins(2, 4, 9), plant(water=9), begins(1, 2, 3), level(1, 1), level(2, 1),
                  stands(1, 1), stands(2, 1), plant(water=4), plant(water=3)),
            [0, 0, 0, 0, -2, 0, -2, -1, 0],
        )

    def test_more_places_than_before(self):
        self.assertEqual(asked(begins(1, 2), begins(2, 4), level(7, 1), stands(7, 1)), [0, 0, 0, 0])


class BeginsRefusedLeavesAll(unittest.TestCase):
    def test_all_is_as_it_was(self):
        for wrong in (begins(0, 1), begins(3, 3), begins(1, 1, 0), begins(1, 1, 1001), begins(1, 1, 1, 1001)):
            with self.subTest(wrong=wrong):
                self.assertEqual(
                    asked(begins(2, 3, 5), hour(), plant(water=5), wrong, level(5, 1), level(6, 1),
                          hour(), plant(water=5), plant(water=6)),
                    [0, 0, 0, -1, 0, -2, 1, 1, -1],
                )

    def test_all_is_as_at_the_beginning(self):
        self.assertEqual(
            asked(begins(3, 3), level(0, 1), level(1, 1), plant(water=2), plant(water=1)),
            [-1, 0, -2, -1, 0],
        )
