"""best: what the best plan is worth, how many are worth as much, and the earliest of them."""

import itertools
import unittest

from sunbeds.plot import answers
from tests.lines import answered, begins, best, check, dislike, hour, joined, last, level, like, plant, stands, tap
from tests.lines import taken_apart


def flower(value=100, kind=1, high=10, hours=0, water=1):
    return plant(high, hours, value, kind, water)


def every_check(told, places, plants):
    """What check answers to each plan, in lines of no more than 60 calls."""
    plans = list(itertools.product(range(places + 1), repeat=plants))
    room = 60 - len(told)
    found = {}
    for at in range(0, len(plans), room):
        some = plans[at:at + room]
        parts = answered(*told, *[check(*plan) for plan in some])
        found.update(zip(some, parts[len(told):]))
    return found


def best_by_check(told, places, plants):
    checked = every_check(told, places, plants)
    worths = {plan: answer[1] for plan, answer in checked.items() if answer[0] == 0}
    most = max(worths.values())
    plans = sorted(plan for plan in worths if worths[plan] == most)
    return [0, most, len(plans), *plans[0]]


class FewPlants(unittest.TestCase):
    def test_no_plants(self):
        self.assertEqual(last(best()), [0, 0, 1])
        self.assertEqual(last(begins(2, 4, 5, 1000), hour(), like(1, 1, 9), stands(0, 5), best()), [0, 0, 1])

    def test_the_garden_of_the_beginning(self):
        self.assertEqual(last(flower(), best()), [0, 100, 1, 0])
        self.assertEqual(last(flower(), flower(101), best()), [0, 101, 1, 1, 0])
        self.assertEqual(last(flower(), flower(), flower(), best()), [0, 100, 3, 0, 1, 1])

    def test_one_plant_anywhere(self):
        self.assertEqual(last(begins(2, 3, 5, 1000), flower(), best()), [0, 100, 6, 0])

    def test_begins_takes_the_plants_away(self):
        self.assertEqual(last(begins(2, 3, 5, 8), flower(), begins(2, 3, 5, 8), best()), [0, 0, 1])


class AllNowhere(unittest.TestCase):
    def test_no_sun(self):
        for plants in (1, 2, 3):
            with self.subTest(plants=plants):
                told = [begins(2, 3, 5, 1000), hour(0, 0), *[flower(hours=2)] * plants]
                self.assertEqual(last(*told, best()), [0, 0, 1, *[6] * plants])

    def test_no_place(self):
        told = [begins(2, 4, 5, 1000), *[stands(place, 1) for place in range(8)], *[flower()] * 3]
        self.assertEqual(last(*told, best()), [0, 0, 1, 8, 8, 8])

    def test_no_way(self):
        self.assertEqual(last(begins(1, 4, 5, 1), stands(0, 1), *[flower()] * 3, best()), [0, 0, 1, 4, 4, 4])

    def test_planted_ones_that_are_worth_nothing_are_as_good(self):
        told = [begins(1, 2, 5, 1000)]
        self.assertEqual(last(*told, flower(0), best()), [0, 0, 3, 0])
        self.assertEqual(last(*told, flower(0), flower(0), best()), [0, 0, 7, 0, 1])
        self.assertEqual(last(*told, stands(0, 5), flower(0), best()), [0, 0, 2, 1])
        self.assertEqual(last(*told, flower(0, hours=1), best()), [0, 0, 1, 2])

    def test_plans_worth_less_than_nothing_are_not_the_best(self):
        told = [begins(1, 2, 5, 1000), dislike(1, 1, 1), flower(0), flower(0)]
        self.assertEqual(last(*told, best()), [0, 0, 5, 0, 2])


class AsGood(unittest.TestCase):
    def test_neighbours_that_do_not_get_on(self):
        told = [begins(1, 2, 5, 1000), flower(5, 1), flower(5, 2)]
        self.assertEqual(last(*told, dislike(1, 2, 4), best()), [0, 6, 2, 0, 1])
        self.assertEqual(last(*told, dislike(1, 2, 5), best()), [0, 5, 6, 0, 1])
        self.assertEqual(last(*told, dislike(1, 2, 6), best()), [0, 5, 4, 0, 2])

    def test_neighbours_that_get_on(self):
        # In a row of four: three ways to stand side by side, each both ways round.
        told = [begins(1, 4, 5, 1000), flower(5, 1), flower(5, 2)]
        self.assertEqual(last(*told, best()), [0, 10, 12, 0, 1])
        self.assertEqual(last(*told, like(2, 1, 1), best()), [0, 11, 6, 0, 1])
        self.assertEqual(last(*told, dislike(2, 1, 1), best()), [0, 10, 6, 0, 2])

    def test_the_earliest_differs_first_in_a_later_plant(self):
        told = [begins(1, 4, 5, 1000), stands(1, 9), flower(), flower()]
        self.assertEqual(last(*told, best()), [0, 200, 6, 0, 2])

    def test_the_earliest_has_a_lower_number_first_whatever_follows(self):
        # Worth 5 alone: (0, nowhere) is earlier than (nowhere, 0).
        self.assertEqual(last(flower(5), flower(5), best()), [0, 5, 2, 0, 1])

    def test_three_in_a_row_with_a_middle_one_that_is_liked(self):
        told = [begins(1, 3, 5, 1000), like(1, 2, 3), like(2, 3, 3), flower(1, 1), flower(1, 3), flower(1, 2)]
        self.assertEqual(last(*told, best()), [0, 9, 2, 0, 2, 1])


class PlansThatCannotBe(unittest.TestCase):
    def test_a_higher_plant_that_takes_the_sun_away(self):
        told = [begins(1, 2, 5, 1000), flower(5, high=10, hours=1), flower(7, high=11)]
        self.assertEqual(last(*told, hour(6, 0), best()), [0, 12, 1, 0, 1])
        self.assertEqual(last(*told, hour(2, 0), best()), [0, 12, 1, 1, 0])
        self.assertEqual(last(*told, hour(2, 1), best()), [0, 12, 2, 0, 1])
        self.assertEqual(last(*told, best()), [0, 7, 2, 2, 0])

    def test_the_dearest_stays_away_for_the_others(self):
        # The high one at either end of the row leaves one other in the shade.
        told = [begins(1, 3, 5, 1000), hour(2, 0), hour(6, 0), flower(8, high=50), flower(6, hours=2)]
        self.assertEqual(last(*told, flower(6, hours=2), best()), [0, 12, 6, 3, 0, 1])
        self.assertEqual(last(*told, flower(1, hours=2), best()), [0, 8, 3, 0, 3, 3])

    def test_places_with_something_that_stands(self):
        told = [begins(2, 3, 5, 1000), stands(0, 9), stands(1, 9), stands(4, 9), flower(), flower(), flower()]
        self.assertEqual(last(*told, best()), [0, 300, 6, 2, 3, 5])
        self.assertEqual(last(*told, stands(2, 9), best()), [0, 200, 6, 3, 5, 6])

    def test_ways_just_as_long_as_told_and_longer(self):
        flowers = [flower(5, water=3), flower(7, water=2)]
        self.assertEqual(last(begins(1, 4, 5, 0), *flowers, best()), [0, 7, 1, 4, 0])
        self.assertEqual(last(begins(1, 4, 5, 1), *flowers, best()), [0, 7, 1, 4, 0])
        self.assertEqual(last(begins(1, 4, 5, 2), *flowers, best()), [0, 12, 2, 0, 1])
        self.assertEqual(last(begins(1, 4, 5, 3), *flowers, best()), [0, 12, 2, 0, 1])
        self.assertEqual(last(begins(1, 4, 5, 4), *flowers, best()), [0, 12, 6, 0, 1])
        self.assertEqual(last(begins(1, 4, 5, 6), *flowers, best()), [0, 12, 12, 0, 1])
        self.assertEqual(last(begins(1, 4, 4, 4), *flowers, best()), [0, 12, 4, 0, 1])
        self.assertEqual(last(begins(1, 4, 5, 2), tap(3), *flowers, best()), [0, 12, 2, 2, 3])


class LargestGarden(unittest.TestCase):
    def test_all_plans_can_be(self):
        told = [begins(2, 4, 1000, 1000), *[hour(whence, 1000) for whence in range(8)],
                *[flower(100000, kind, 1000, 8, 1000) for kind in (1, 2, 3)]]
        self.assertEqual(answered(*told, best(), best())[-2:], [[0, 300000, 336, 0, 1, 2]] * 2)

    def test_all_side_by_side(self):
        # The second liked by both others. Three in a row: 4 such rows; round a corner: 3 squares of 4 corners;
        # each of these 16 both ways round.
        told = [begins(2, 4, 1000, 1000), like(1, 2, 9), like(2, 3, 9), *[hour(whence, 1000) for whence in range(8)],
                *[flower(100000, kind, 1000, 8, 1000) for kind in (1, 2, 3)]]
        self.assertEqual(answered(*told, best(), best())[-2:], [[0, 300018, 32, 0, 1, 2]] * 2)

    def test_what_is_told_between_two(self):
        told = [begins(1, 8, 3, 1000), flower(5, 1), flower(5, 2), flower(5, 3)]
        parts = answered(*told, best(), stands(0, 4), like(1, 3, 2), dislike(1, 2, 9), best())
        self.assertEqual(parts[4], [0, 15, 336, 0, 1, 2])
        # In places 1 to 7, the first and third side by side: 12 plans, and 5 places left for the second,
        # of which one is beside the first but where the first is at an end (2 of the 12).
        self.assertEqual(parts[-1], [0, 17, 50, 1, 3, 2])


class AsCheckTells(unittest.TestCase):
    HOURS = [hour(0, 5), hour(1, 0), hour(2, 8), hour(3, 12), hour(4, 3), hour(5, 1), hour(6, 20), hour(7, 1000)]

    def assert_best_as_check(self, places, told, answer):
        self.assertEqual(last(*told, best()), answer)
        self.assertEqual(best_by_check(told, places, len(answer) - 3), answer)

    def test_the_largest_garden(self):
        told = [begins(2, 4, 6, 4), level(1, 14), level(6, 9), stands(3, 25), tap(5), *self.HOURS, like(1, 2, 4),
                dislike(2, 2, 9), flower(5, 2, 12, 7, 4), flower(4, 1, 30, 7, 3), flower(6, 2, 8, 7, 2)]
        self.assert_best_as_check(8, told, [0, 23, 4, 1, 5, 6])

    def test_a_column(self):
        told = [begins(8, 1, 4, 12), level(2, 15), stands(5, 18), tap(4), *self.HOURS, dislike(1, 3, 3), like(3, 3, 2),
                flower(2, 3, 10, 7, 2), flower(3, 1, 14, 8, 2), flower(2, 3, 16, 6, 3)]
        self.assert_best_as_check(8, told, [0, 9, 7, 2, 6, 3])

    def test_two_plants(self):
        told = [begins(3, 2, 4, 6), level(2, 15), stands(5, 18), tap(2), *self.HOURS, dislike(1, 3, 3),
                flower(2, 3, 10, 7, 2), flower(3, 1, 14, 8, 2)]
        self.assert_best_as_check(6, told, [0, 5, 4, 0, 4])


class BestLeavesAll(unittest.TestCase):
    def test_as_it_was(self):
        told = [begins(2, 3, 5, 6), hour(2, 0), stands(1, 30), level(4, 12), tap(3), like(1, 1, 2),
                flower(5, hours=1), flower(7)]
        asks = [check(2, 4), check(3, 4), check(0, 6), check(5, 0)]
        without = answered(*told, *asks)[len(told):]
        self.assertEqual(answered(*told, best(), *asks)[len(told) + 1:], without)
        self.assertEqual(taken_apart(answers(joined([*told, best(), *asks, best()])))[-1], last(*told, best()))
