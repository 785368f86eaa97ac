"""like and dislike: both tell how much two kinds like one another, and refuse alike."""

import unittest

from tests.lines import GREATEST, answered, asked, begins, check, dislike, last, like, plant

CALLS = (like, dislike)
SIGNS = ((like, 1), (dislike, -1))


def side_by_side(kind, other):
    """Two plants worth nothing but how they get on."""
    return [plant(hours=0, worth=0, kind=kind), plant(hours=0, worth=0, kind=other)]


def liking(kind, other, *told):
    """How much two kinds like one another, once all this is told."""
    answer = last(begins(1, 2, way=1000), *told, *side_by_side(kind, other), check(0, 1))
    return answer[1]


class KindsAnswer(unittest.TestCase):
    def test_kinds_from_1_to_5(self):
        for call in CALLS:
            for kind in (1, 5):
                for other in (1, 5):
                    with self.subTest(call=call.__name__, kind=kind, other=other):
                        self.assertEqual(asked(call(kind, other, 3)), [0])

    def test_how_much_from_0_to_9(self):
        for call, sign in SIGNS:
            for much in range(10):
                with self.subTest(call=call.__name__, much=much):
                    self.assertEqual(asked(call(2, 3, much)), [0])
                    self.assertEqual(liking(2, 3, call(2, 3, much)), sign * much)

    def test_all_likings_are_0_at_first(self):
        for kind in range(1, 6):
            for other in range(1, 6):
                with self.subTest(kind=kind, other=other):
                    self.assertEqual(liking(kind, other), 0)


class KindsLike(unittest.TestCase):
    def test_each_two_whichever_is_told_first(self):
        for call, sign in SIGNS:
            for kind in range(1, 6):
                for other in range(1, 6):
                    with self.subTest(call=call.__name__, kind=kind, other=other):
                        self.assertEqual(liking(kind, other, call(kind, other, 7)), sign * 7)
                        self.assertEqual(liking(other, kind, call(kind, other, 7)), sign * 7)

    def test_no_other_two(self):
        for call in CALLS:
            for kind, other in ((1, 1), (1, 3), (2, 2), (3, 3), (3, 4), (1, 5)):
                with self.subTest(call=call.__name__, kind=kind, other=other):
                    self.assertEqual(liking(kind, other, call(2, 3, 7), call(1, 2, 5)), 0)

    def test_a_kind_and_itself(self):
        for call, sign in SIGNS:
            with self.subTest(call=call.__name__):
                self.assertEqual(liking(4, 4, call(4, 4, 9)), sign * 9)
                self.assertEqual(liking(4, 5, call(4, 4, 9)), 0)

    def test_told_anew(self):
        self.assertEqual(liking(1, 2, like(1, 2, 3), like(1, 2, 5)), 5)
        self.assertEqual(liking(1, 2, like(1, 2, 3), like(2, 1, 5)), 5)
        self.assertEqual(liking(1, 2, like(1, 2, 3), dislike(1, 2, 5)), -5)
        self.assertEqual(liking(1, 2, dislike(1, 2, 5), like(2, 1, 3)), 3)
        self.assertEqual(liking(2, 1, dislike(1, 2, 5), dislike(2, 1, 4)), -4)
        self.assertEqual(liking(1, 2, like(1, 2, 3), dislike(2, 1, 0)), 0)
        self.assertEqual(liking(1, 2, dislike(2, 1, 3), like(1, 2, 0)), 0)

    def test_told_between_two_checks(self):
        parts = answered(begins(1, 2, way=1000), *side_by_side(1, 2), check(0, 1), like(2, 1, 4), check(0, 1),
                         dislike(2, 1, 6), check(0, 1))
        self.assertEqual([parts[at][1] for at in (3, 5, 7)], [0, 4, -6])

    def test_set_back_by_begins(self):
        for call in CALLS:
            with self.subTest(call=call.__name__):
                self.assertEqual(liking(1, 2, call(1, 2, 9), begins(1, 2, way=1000)), 0)


class KindsRefuse(unittest.TestCase):
    def test_a_kind_that_is_not_1_to_5(self):
        for call in CALLS:
            for kind in (0, 6, GREATEST):
                with self.subTest(call=call.__name__, kind=kind):
                    self.assertEqual(asked(call(kind, 1, 1), call(1, kind, 1), call(kind, kind, 1)), [-1] * 3)

    def test_how_much_above_9(self):
        for call in CALLS:
            for much in (10, 11, GREATEST):
                with self.subTest(call=call.__name__, much=much):
                    self.assertEqual(asked(call(1, 2, much)), [-1])

    def test_all_numbers_wrong(self):
        for call in CALLS:
            with self.subTest(call=call.__name__):
                self.assertEqual(asked(call(0, 6, 10), call(GREATEST, GREATEST, GREATEST)), [-1, -1])

    def test_all_is_as_it_was(self):
        for call in CALLS:
            for numbers in ((1, 2, 10), (2, 1, GREATEST), (1, 6, 4), (0, 2, 4)):
                with self.subTest(call=call.__name__, numbers=numbers):
                    self.assertEqual(
                        answered(begins(1, 2, way=1000), *side_by_side(1, 2), like(1, 2, 8), call(*numbers),
                                 check(0, 1)),
                        [[0], [0], [1], [0], [-1], [0, 8, 2]],
                    )
