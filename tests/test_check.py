"""check: what it refuses, with which number, and in what form it answers."""

import unittest

from tests.lines import GREATEST, answered, begins, check, hour, last, level, plant, stands, tap

NOWHERE = 6
GARDEN = [begins(2, 3, 5, 1000)]


def plants(many, **told):
    return [plant(**{"hours": 0, **told})] * many


class PlansThatAreNoPlans(unittest.TestCase):
    def test_not_a_number_for_each_plant(self):
        for many in range(4):
            for numbers in range(6):
                with self.subTest(plants=many, numbers=numbers):
                    answer = last(*GARDEN, *plants(many), check(*range(numbers)))
                    if numbers == many:
                        self.assertEqual(answer[0], 0)
                    else:
                        self.assertEqual(answer, [-1])

    def test_the_number_of_places_and_one_above_it(self):
        for rows, columns in ((1, 1), (2, 3), (2, 4)):
            garden = [begins(rows, columns, 5, 1000), *plants(1)]
            nowhere = rows * columns
            with self.subTest(rows=rows, columns=columns):
                self.assertEqual(last(*garden, check(nowhere - 1))[:2], [0, 100])
                self.assertEqual(last(*garden, check(nowhere)), [0, 0, 0])
                self.assertEqual(last(*garden, check(nowhere + 1)), [-1])
                self.assertEqual(last(*garden, check(GREATEST)), [-1])

    def test_one_above_it_anywhere_in_the_plan(self):
        for plan in ((7, 0, 1), (0, 7, 1), (0, 1, 7), (7, 7, 7), (6, 6, GREATEST)):
            with self.subTest(plan=plan):
                self.assertEqual(last(*GARDEN, *plants(3), check(*plan)), [-1])

    def test_no_plants(self):
        self.assertEqual(last(check()), [0, 0, 0])
        self.assertEqual(last(*GARDEN, check()), [0, 0, 0])
        for plan in ((0,), (6,), (0, 1, 2, 3, 4)):
            with self.subTest(plan=plan):
                self.assertEqual(last(*GARDEN, check(*plan)), [-1])


class PlacesOfTheirOwn(unittest.TestCase):
    def test_two_plants_at_one_place(self):
        for plan in ((2, 2, 0), (2, 0, 2), (0, 2, 2), (2, 2, 2), (2, 2, 6), (6, 0, 0)):
            with self.subTest(plan=plan):
                self.assertEqual(last(*GARDEN, *plants(3), check(*plan)), [-4])

    def test_a_place_with_something_that_stands(self):
        for plan in ((4, 0, 1), (0, 4, 1), (0, 1, 4), (4, 6, 6)):
            for high in (1, 1000):
                with self.subTest(plan=plan, high=high):
                    self.assertEqual(last(*GARDEN, stands(4, high), *plants(3), check(*plan)), [-4])

    def test_nothing_stands_there_any_more(self):
        self.assertEqual(last(*GARDEN, stands(4, 9), stands(4, 0), *plants(1), check(4)), [0, 100, 4])
        self.assertEqual(last(*GARDEN, stands(4, 9), *GARDEN, *plants(1), check(4)), [0, 100, 4])

    def test_a_level_is_nothing_that_stands(self):
        self.assertEqual(last(*GARDEN, level(4, 1000), *plants(1), check(4)), [0, 100, 4])

    def test_several_plants_nowhere(self):
        self.assertEqual(last(*GARDEN, *plants(2), check(6, 6)), [0, 0, 0])
        self.assertEqual(last(*GARDEN, *plants(3), check(6, 6, 6)), [0, 0, 0])
        self.assertEqual(last(*GARDEN, *plants(3), check(6, 1, 6)), [0, 100, 2])

    def test_all_nowhere_where_something_stands_everywhere(self):
        walls = [stands(place, 5) for place in range(6)]
        self.assertEqual(last(*GARDEN, *walls, *plants(3), check(6, 6, 6)), [0, 0, 0])


class PlansThatCannotBe(unittest.TestCase):
    def test_the_first_plant_that_has_too_few_hours(self):
        told = [*GARDEN, hour(), hour(), plant(hours=2), plant(hours=3), plant(hours=4)]
        self.assertEqual(last(*told, check(0, 1, 2)), [-6, 1, 1, 2])
        self.assertEqual(last(*told, check(0, 6, 2)), [-6, 1, 2, 2])
        self.assertEqual(last(*told, check(6, 1, 2)), [-6, 1, 1, 2])
        self.assertEqual(last(*told, check(0, 6, 6)), [0, 100, 0])

    def test_the_first_by_its_number_not_by_its_place(self):
        told = [*GARDEN, hour(), plant(hours=2), plant(hours=3)]
        self.assertEqual(last(*told, check(5, 0)), [-6, 1, 0, 1])
        self.assertEqual(last(*told, check(0, 5)), [-6, 1, 0, 1])

    def test_no_hours_at_all(self):
        self.assertEqual(last(*GARDEN, plant(hours=1), check(0)), [-6, 1, 0, 0])
        self.assertEqual(last(*GARDEN, plant(hours=0), check(0)), [0, 100, 0])
        self.assertEqual(last(*GARDEN, plant(hours=8), check(NOWHERE)), [0, 0, 0])

    def test_as_many_hours_as_needed_and_one_fewer(self):
        for needed in range(1, 9):
            enough = [hour(0, 0)] * needed
            with self.subTest(needed=needed):
                self.assertEqual(last(*GARDEN, *enough, plant(hours=needed), check(0)), [0, 100, 0])
                self.assertEqual(last(*GARDEN, *enough[1:], plant(hours=needed), check(0)),
                                 [-6, 1, 0, needed - 1])

    def test_more_hours_than_needed(self):
        self.assertEqual(last(*GARDEN, *[hour()] * 8, plant(hours=3), check(0)), [0, 100, 0])

    def test_too_long_a_way(self):
        self.assertEqual(last(begins(2, 3, 5, 5), plant(hours=0), check(5)), [-6, 2, 6])
        self.assertEqual(last(begins(2, 3, 5, 6), plant(hours=0), check(5)), [0, 100, 6])

    def test_too_few_hours_are_told_ahead_of_too_long_a_way(self):
        told = [begins(2, 3, 5, 0), hour(), plant(hours=1), plant(hours=2)]
        self.assertEqual(last(*told, check(4, 5)), [-6, 1, 1, 1])
        self.assertEqual(last(*told, check(5, 6)), [-6, 2, 6])


class TheOneToldFirst(unittest.TestCase):
    def test_no_plan_ahead_of_no_place_of_its_own(self):
        told = [*GARDEN, stands(4, 9), *plants(2)]
        for plan in ((4, 4, 4), (0, 0, 0), (4,), (4, 7), (7, 4)):
            with self.subTest(plan=plan):
                self.assertEqual(last(*told, check(*plan)), [-1])
        self.assertEqual(last(*GARDEN, *plants(3), check(0, 0, 7)), [-1])

    def test_no_plan_ahead_of_what_cannot_be(self):
        told = [begins(2, 3, 5, 0), plant(hours=1), *plants(1)]
        for plan in ((0,), (0, 7), (5, 4, 3), ()):
            with self.subTest(plan=plan):
                self.assertEqual(last(*told, check(*plan)), [-1])

    def test_no_place_of_its_own_ahead_of_what_cannot_be(self):
        told = [begins(2, 3, 5, 0), stands(4, 9), plant(hours=1), *plants(1)]
        for plan in ((5, 5), (5, 4), (4, 5), (4, 4)):
            with self.subTest(plan=plan):
                self.assertEqual(last(*told, check(*plan)), [-4])


class CheckAnswers(unittest.TestCase):
    def test_the_document_s_plan(self):
        told = [begins(2, 3, 5, 8), *plants(3)]
        self.assertEqual(last(*told, [8, 3, 0, 4, 6, 0]), [0, 200, 4])

    def test_worth_then_way(self):
        self.assertEqual(last(*GARDEN, tap(2), plant(hours=0, worth=70), plant(hours=0, worth=8), check(3, 6)),
                         [0, 70, 6])

    def test_a_check_leaves_all_as_it_was(self):
        told = [begins(2, 3, 5, 4), hour(), stands(4, 9), plant(), plant(hours=2)]
        asks = [check(0, 6), check(0), check(0, 7), check(0, 0), check(4, 6), check(0, 1), check(5, 6)]
        expected = [[0, 100, 0], [-1], [-1], [-4], [-4], [-6, 1, 1, 1], [-6, 2, 6]]
        self.assertEqual(answered(*told, *asks, *asks)[len(told):], expected * 2)

    def test_what_is_told_later_counts(self):
        parts = answered(begins(1, 2, 5, 2), plant(), check(0), hour(6, 0), check(1), stands(0, 11), check(1),
                         plant(hours=0), check(1), check(1, 2), level(1, 1), check(1, 2))
        self.assertEqual(parts, [[0], [0], [-6, 1, 0, 0], [0], [0, 100, 2], [0], [-6, 1, 0, 0], [1], [-1],
                                 [-6, 1, 0, 0], [0], [0, 100, 2]])
