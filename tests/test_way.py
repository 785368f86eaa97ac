"""The way: the fewest steps on which all planted ones are watered."""

import itertools
import unittest

from tests.lines import begins, check, last, plant, stands, tap


def way(rows, columns, tap_place, can, waters, plan):
    flowers = [plant(hours=0, water=water) for water in waters]
    answer = last(begins(rows, columns, can, 1000), tap(tap_place), *flowers, check(*plan))
    if answer[0] != 0:
        raise AssertionError(f"can't be: {answer}")
    return answer[2]


class NoneOrOne(unittest.TestCase):
    def test_none_planted(self):
        for tap_place in (0, 5):
            with self.subTest(tap_place=tap_place):
                self.assertEqual(way(2, 3, tap_place, 5, (), ()), 0)
                self.assertEqual(way(2, 3, tap_place, 5, (5, 5, 5), (6, 6, 6)), 0)

    def test_there_and_back(self):
        steps = {
            (2, 3): ((0, 1, 2, 1, 2, 3), (1, 0, 1, 2, 1, 2), (2, 1, 0, 3, 2, 1),
                     (1, 2, 3, 0, 1, 2), (2, 1, 2, 1, 0, 1), (3, 2, 1, 2, 1, 0)),
            (3, 2): ((0, 1, 1, 2, 2, 3), (1, 0, 2, 1, 3, 2), (1, 2, 0, 1, 1, 2),
                     (2, 1, 1, 0, 2, 1), (2, 3, 1, 2, 0, 1), (3, 2, 2, 1, 1, 0)),
        }
        for (rows, columns), table in steps.items():
            for tap_place, place in itertools.product(range(6), range(6)):
                with self.subTest(rows=rows, columns=columns, tap_place=tap_place, place=place):
                    self.assertEqual(way(rows, columns, tap_place, 5, (5,), (place,)), 2 * table[tap_place][place])

    def test_the_longest_garden(self):
        self.assertEqual(way(1, 8, 0, 1, (1,), (7,)), 14)
        self.assertEqual(way(8, 1, 7, 1, (1,), (0,)), 14)


class Two(unittest.TestCase):
    def test_a_can_that_holds_both_or_each_alone(self):
        self.assertEqual(way(1, 8, 0, 10, (5, 5), (3, 5)), 10)
        self.assertEqual(way(1, 8, 0, 10, (4, 6), (3, 5)), 10)
        self.assertEqual(way(1, 8, 0, 9, (5, 5), (3, 5)), 16)
        self.assertEqual(way(1, 8, 0, 9, (4, 6), (3, 5)), 16)
        self.assertEqual(way(1, 8, 0, 9, (9, 1), (5, 3)), 16)

    def test_the_tap_between_them(self):
        self.assertEqual(way(1, 8, 4, 10, (5, 5), (2, 6)), 8)
        self.assertEqual(way(1, 8, 4, 5, (5, 5), (2, 6)), 8)

    def test_one_that_is_nowhere_needs_no_water(self):
        self.assertEqual(way(1, 8, 0, 10, (5, 10, 5), (3, 8, 5)), 10)


class Three(unittest.TestCase):
    def test_a_can_that_holds_all_some_or_each_alone(self):
        # At places 1, 2 and 7 of a row, watered with 3, 3 and 4.
        for can, steps in ((10, 14), (9, 16), (7, 16), (6, 18), (5, 20), (4, 20)):
            with self.subTest(can=can):
                self.assertEqual(way(1, 8, 0, can, (3, 3, 4), (1, 2, 7)), steps)

    def test_which_two_go_together(self):
        # Two rows of four, tap at 1, planted at 4, 3 and 7: alone 4, 4 and 6 steps.
        waters = (((5, 5, 5), 15, 8), ((5, 5, 5), 10, 10), ((5, 5, 5), 9, 14), ((5, 5, 5), 5, 14),
                  ((5, 6, 5), 10, 12), ((5, 5, 6), 10, 14), ((6, 5, 5), 10, 10), ((1, 9, 1), 10, 10),
                  ((1, 1, 10), 10, 14), ((10, 1, 1), 10, 10))
        for needed, can, steps in waters:
            with self.subTest(needed=needed, can=can):
                self.assertEqual(way(2, 4, 1, can, needed, (4, 3, 7)), steps)

    def test_whichever_plant_is_where(self):
        for order in itertools.permutations(range(3)):
            waters = [(3, 3, 4)[at] for at in order]
            plan = [(1, 2, 7)[at] for at in order]
            with self.subTest(order=order):
                self.assertEqual(way(1, 8, 0, 10, waters, plan), 14)
                self.assertEqual(way(1, 8, 0, 7, waters, plan), 16)
                self.assertEqual(way(1, 8, 0, 6, waters, plan), 18)

    def test_the_shorter_round(self):
        self.assertEqual(way(2, 4, 0, 1000, (1, 1, 1), (3, 7, 4)), 8)
        self.assertEqual(way(2, 4, 0, 1000, (1, 1, 1), (3, 4, 7)), 8)
        self.assertEqual(way(2, 4, 2, 1000, (300, 300, 400), (0, 7, 5)), 8)

    def test_a_can_of_1000(self):
        self.assertEqual(way(1, 8, 0, 1000, (400, 300, 300), (3, 4, 5)), 10)
        self.assertEqual(way(1, 8, 0, 1000, (400, 300, 301), (3, 4, 5)), 16)
        self.assertEqual(way(1, 8, 0, 1000, (1000, 1000, 1000), (3, 4, 5)), 24)


class TheTapsPlacePlanted(unittest.TestCase):
    def test_it_alone(self):
        self.assertEqual(way(1, 8, 3, 5, (5,), (3,)), 0)

    def test_the_can_is_filled_there_at_no_step(self):
        self.assertEqual(way(1, 8, 0, 5, (5, 5), (0, 3)), 6)
        self.assertEqual(way(1, 8, 0, 5, (5, 5), (3, 0)), 6)
        self.assertEqual(way(1, 8, 2, 5, (5, 5, 5), (2, 0, 4)), 8)
        self.assertEqual(way(1, 8, 0, 5, (5, 3, 2), (0, 3, 4)), 8)

    def test_in_the_garden_of_the_beginning(self):
        self.assertEqual(last(plant(hours=0), check(0)), [0, 100, 0])


class WhatIsOnTheWay(unittest.TestCase):
    def test_one_may_go_over_places_with_anything_on_them(self):
        walls = [stands(place, 1000) for place in (1, 2, 4, 5)]
        flowers = [plant(hours=0), plant(hours=0)]
        self.assertEqual(last(begins(2, 4, 5, 1000), *walls, *flowers, check(3, 7)), [0, 200, 8])

    def test_something_may_stand_at_the_tap(self):
        self.assertEqual(last(begins(1, 8, 5, 1000), tap(4), stands(4, 9), plant(hours=0), check(6)), [0, 100, 4])


class AsLongAsTold(unittest.TestCase):
    def test_just_as_long_and_one_longer(self):
        ways = (((5,), (7,), 14), ((5, 5), (3, 5), 16), ((3, 2), (3, 5), 10), ((5, 5, 5), (5, 6, 7), 36))
        for waters, plan, steps in ways:
            flowers = [plant(hours=0, worth=1, water=water) for water in waters]
            with self.subTest(waters=waters, plan=plan):
                self.assertEqual(last(begins(1, 8, 5, steps), *flowers, check(*plan)), [0, len(plan), steps])
                self.assertEqual(last(begins(1, 8, 5, steps + 1), *flowers, check(*plan)), [0, len(plan), steps])
                self.assertEqual(last(begins(1, 8, 5, steps - 1), *flowers, check(*plan)), [-6, 2, steps])

    def test_a_way_of_0(self):
        told = [begins(1, 8, 5, 0), plant(hours=0)]
        self.assertEqual(last(*told, check(0)), [0, 100, 0])
        self.assertEqual(last(*told, check(8)), [0, 0, 0])
        self.assertEqual(last(*told, check(1)), [-6, 2, 2])
        self.assertEqual(last(*told, tap(1), check(1)), [0, 100, 0])
        self.assertEqual(last(*told, tap(1), check(0)), [-6, 2, 2])

    def test_a_way_of_1000(self):
        self.assertEqual(last(begins(8, 1, 1, 1000), *[plant(hours=0)] * 3, check(5, 6, 7)), [0, 300, 36])
