"""What a plan is worth: the planted ones, and how neighbours get on."""

import itertools
import unittest

from tests.lines import begins, check, dislike, last, like, plant

TWO_BY_THREE = ((0, 1), (1, 2), (3, 4), (4, 5), (0, 3), (1, 4), (2, 5))
THREE_BY_TWO = ((0, 1), (2, 3), (4, 5), (0, 2), (2, 4), (1, 3), (3, 5))
TWO_BY_FOUR = ((0, 1), (1, 2), (2, 3), (4, 5), (5, 6), (6, 7), (0, 4), (1, 5), (2, 6), (3, 7))
ONE_BY_THREE = ((0, 1), (1, 2))


def worth(*told):
    answer = last(*told)
    if answer[0] != 0:
        raise AssertionError(f"can't be: {answer}")
    return answer[1]


def flower(value=0, kind=1):
    return plant(hours=0, worth=value, kind=kind)


class PlantedOnes(unittest.TestCase):
    TOLD = [begins(2, 4, 5, 1000), flower(1), flower(20), flower(300)]

    def test_the_planted_ones_together(self):
        plans = (((8, 8, 8), 0), ((0, 8, 8), 1), ((8, 0, 8), 20), ((8, 8, 0), 300), ((0, 5, 8), 21),
                 ((0, 8, 5), 301), ((8, 0, 5), 320), ((0, 5, 7), 321), ((7, 6, 5), 321))
        for plan, together in plans:
            with self.subTest(plan=plan):
                self.assertEqual(worth(*self.TOLD, check(*plan)), together)

    def test_the_least_and_the_most(self):
        garden = [begins(2, 4, 5, 1000)]
        self.assertEqual(worth(*garden, *[flower(0)] * 3, check(0, 1, 2)), 0)
        self.assertEqual(worth(*garden, *[flower(100000)] * 3, check(0, 1, 2)), 300000)
        self.assertEqual(worth(*garden, like(1, 1, 9), *[flower(100000)] * 3, check(0, 1, 2)), 300018)


class Neighbours(unittest.TestCase):
    def test_side_by_side_and_one_below_another_alone(self):
        gardens = ((2, 3, TWO_BY_THREE), (3, 2, THREE_BY_TWO), (2, 4, TWO_BY_FOUR), (1, 3, ONE_BY_THREE),
                   (3, 1, ONE_BY_THREE))
        for rows, columns, neighbours in gardens:
            told = [begins(rows, columns, 5, 1000), like(1, 2, 7), flower(10, 1), flower(10, 2)]
            for place, other in itertools.permutations(range(rows * columns), 2):
                with self.subTest(rows=rows, columns=columns, place=place, other=other):
                    liked = 7 if (min(place, other), max(place, other)) in neighbours else 0
                    self.assertEqual(worth(*told, check(place, other)), 20 + liked)

    def test_one_that_is_nowhere_is_no_neighbour(self):
        # The number that says nowhere is the one behind the last place's.
        told = [begins(1, 3, 5, 1000), like(1, 1, 7), flower(), flower(), flower()]
        self.assertEqual(worth(*told, check(2, 3, 3)), 0)
        self.assertEqual(worth(*told, check(3, 2, 1)), 7)

    def test_three_in_a_row(self):
        told = [begins(1, 3, 5, 1000), like(1, 2, 1), like(2, 3, 3), like(1, 3, 5)]
        told += [flower(0, 1), flower(0, 2), flower(0, 3)]
        for plan, liked in (((0, 1, 2), 4), ((2, 1, 0), 4), ((1, 0, 2), 6), ((0, 2, 1), 8)):
            with self.subTest(plan=plan):
                self.assertEqual(worth(*told, check(*plan)), liked)

    def test_three_round_a_corner(self):
        told = [begins(2, 2, 5, 1000), like(1, 2, 1), like(2, 3, 3), like(1, 3, 5)]
        told += [flower(0, 1), flower(0, 2), flower(0, 3)]
        for plan, liked in (((0, 1, 2), 6), ((1, 0, 2), 4), ((1, 2, 0), 8), ((3, 2, 1), 6)):
            with self.subTest(plan=plan):
                self.assertEqual(worth(*told, check(*plan)), liked)


class Likings(unittest.TestCase):
    GARDEN = [begins(1, 3, 5, 1000)]

    def test_above_and_below_0(self):
        for value in range(10):
            with self.subTest(value=value):
                told = [*self.GARDEN, flower(50, 1), flower(50, 2)]
                self.assertEqual(worth(*told, like(1, 2, value), check(0, 1)), 100 + value)
                self.assertEqual(worth(*told, dislike(1, 2, value), check(0, 1)), 100 - value)

    def test_a_worth_below_0(self):
        told = [*self.GARDEN, dislike(4, 4, 9), flower(3, 4), flower(2, 4), flower(1, 4)]
        self.assertEqual(last(*told, check(0, 1, 3)), [0, -4, 2])
        self.assertEqual(last(*told, check(0, 1, 2)), [0, -12, 4])
        self.assertEqual(last(*self.GARDEN, dislike(4, 4, 9), *[flower(0, 4)] * 3, check(0, 1, 2)), [0, -18, 4])

    def test_above_and_below_0_together(self):
        told = [*self.GARDEN, like(1, 2, 4), dislike(2, 3, 9), flower(1, 1), flower(1, 2), flower(1, 3)]
        self.assertEqual(worth(*told, check(0, 1, 2)), -2)
        self.assertEqual(worth(*told, check(1, 0, 2)), 7)

    def test_a_kind_and_itself(self):
        told = [*self.GARDEN, like(1, 1, 6), flower(0, 1), flower(0, 1), flower(0, 2)]
        self.assertEqual(worth(*told, check(0, 1, 2)), 6)
        self.assertEqual(worth(*told, check(0, 2, 1)), 0)
