"""How calls are handed in and answers given back, whatever the calls are."""

import contextlib
import io
import unittest

from sunbeds.plot import answers
from tests.lines import (
    GREATEST, answered, asked, begins, best, check, dislike, hour, joined, level, like, plant, stands, tap, taken_apart,
)

# Every call, refused and not, each with what it answers.
CALLS = (
    (begins(2, 3, 5, 8), [0]),
    (level(4, 20), [0]),
    (level(6, 1), [-2]),
    (stands(1, 30), [0]),
    (stands(1, 1001), [-1]),
    (hour(0, 5), [0]),
    (hour(8, 5), [-1]),
    (plant(30, 1, 5, 1, 5), [0]),
    (plant(30, 1, 5, 1, 6), [-1]),
    (begins(3, 3), [-1]),
    (like(1, 2, 10), [-1]),
    (check(), [-1]),
    (check(5), [0, 5, 6]),
    (best(), [0, 5, 5, 0]),
    (tap(2), [0]),
    (tap(6), [-2]),
    (plant(10, 2, 3, 2, 1), [1]),
    (check(5, 2), [-6, 1, 1, 1]),
    (plant(10, 0, 3, 2, 5), [2]),
    (dislike(2, 1, 9), [0]),
    (check(5, 6, 2), [0, -1, 2]),
    (check(5, 6, 1), [-4]),
    (check(3, 6, 0), [-6, 2, 10]),
    (check(0, 6, 3, 1, 2), [-1]),
    (best(), [0, 8, 12, 0, 6, 2]),
)
LINE = joined(call for call, answer in CALLS)
ANSWERED = joined([len(answer), *answer] for call, answer in CALLS)


class Unchanged(list):
    """A list that tells at once when it is changed, even if it were set right again later."""


def refuse_change(*told, **named):
    raise AssertionError("what was handed in was changed")


for changing in ("__setitem__", "__delitem__", "__iadd__", "__imul__", "append", "clear", "extend",
                 "insert", "pop", "remove", "reverse", "sort"):
    setattr(Unchanged, changing, refuse_change)


class TheLists(unittest.TestCase):
    def test_calls_as_the_document_writes_them(self):
        self.assertEqual(answers([0, 4, 2, 3, 5, 8, 0]), [1, 0])
        self.assertEqual(answers([1, 2, 0, 1000, 0]), [1, 0])
        self.assertEqual(answers([2, 2, 1, 0, 0]), [1, -2])
        self.assertEqual(answers([3, 2, 7, 1000, 0]), [1, 0])
        self.assertEqual(answers([4, 5, 1, 0, 0, 1, 1, 0]), [1, 0])
        self.assertEqual(answers([5, 3, 1, 5, 9, 0]), [1, 0])
        self.assertEqual(answers([6, 3, 5, 1, 10, 0]), [1, -1])
        self.assertEqual(answers([7, 1, 1, 0]), [1, -2])
        self.assertEqual(answers([8, 0, 0]), [3, 0, 0, 0])
        self.assertEqual(answers([8, 3, 0, 4, 6, 0]), [1, -1])
        self.assertEqual(answers([9, 0, 0]), [3, 0, 0, 1])

    def test_each_call_is_answered_in_order(self):
        self.assertEqual(answers(LINE), ANSWERED)

    def test_sixty_calls(self):
        calls = [begins(2, 4, 1000, 1000)]
        calls += [level(place, GREATEST) for place in range(8)] + [stands(place, 1000) for place in range(8)]
        calls += [hour(3, 1000)] * 20 + [plant(1000, 8, 100000, 5, 1000)] * 23
        self.assertEqual(len(calls), 60)
        told = [0] + [-1] * 8 + [0] * 8 + list(range(8)) + [-5] * 12 + [0, 1, 2] + [-5] * 20
        self.assertEqual(asked(*calls), told)

    def test_sixty_calls_with_checks_and_two_bests(self):
        calls = [begins(2, 4, 5, 1000), plant(hours=0), plant(hours=0), plant(hours=0), best()]
        calls += [check(0, 1, 2)] * 54 + [best()]
        self.assertEqual(len(calls), 60)
        most = [0, 300, 336, 0, 1, 2]
        self.assertEqual(answered(*calls), [[0], [0], [1], [2], most] + [[0, 300, 4]] * 54 + [most])

    def test_the_greatest_number_everywhere(self):
        most = GREATEST
        self.assertEqual(
            asked(begins(most, most, most, most), level(most, most), stands(most, most),
                  hour(most, most), plant(most, most, most, most, most), like(most, most, most),
                  dislike(most, most, most), tap(most), check(*[most] * 5), plant(), check(most)),
            [-1, -2, -2, -1, -1, -1, -1, -2, -1, 0, -1],
        )

    def test_whole_numbers_in_a_list(self):
        answered = answers(LINE)
        self.assertIs(type(answered), list)
        self.assertEqual({type(number) for number in answered}, {int})

    def test_a_refusal_is_alone_but_where_told(self):
        for part in taken_apart(answers(LINE)):
            if part[0] < 0 and part[0] != -6:
                self.assertEqual(len(part), 1)


class WhatIsHandedIn(unittest.TestCase):
    def test_it_is_as_it_was(self):
        handed = list(LINE)
        answers(handed)
        self.assertEqual(handed, LINE)

    def test_it_is_not_changed_for_a_while_either(self):
        self.assertEqual(answers(Unchanged(LINE)), ANSWERED)

    def test_what_is_given_back_is_another_list(self):
        handed = list(LINE)
        self.assertIsNot(answers(handed), handed)


class NothingIsKept(unittest.TestCase):
    def test_the_same_list_asked_twice_is_answered_alike(self):
        handed = list(LINE)
        first = answers(handed)
        self.assertEqual(first, ANSWERED)
        self.assertEqual(answers(handed), first)

    def test_an_answer_changed_by_its_reader_changes_no_other(self):
        first = answers(LINE)
        first.clear()
        self.assertEqual(answers(LINE), ANSWERED)

    def test_each_line_begins_anew(self):
        asked(begins(2, 4, 1000, 1000), *[hour()] * 8, *[plant()] * 3, level(0, 9), stands(0, 9), like(1, 1, 9),
              dislike(1, 2, 9), tap(7))
        self.assertEqual(
            asked(hour(), plant(water=2), plant(water=1), level(1, 0), stands(1, 0)), [0, -1, 0, -2, -2]
        )
        self.assertEqual(answered(best(), tap(1), check()), [[0, 0, 1], [-2], [0, 0, 0]])
        self.assertEqual(
            answered(begins(1, 3, 5, 1000), plant(hours=0, kind=1), plant(hours=0, kind=1), plant(hours=0, kind=2),
                     check(1, 0, 2))[-1],
            [0, 300, 4],
        )

    def test_nothing_is_printed(self):
        out, err = io.StringIO(), io.StringIO()
        with contextlib.redirect_stdout(out), contextlib.redirect_stderr(err):
            answers(LINE)
        self.assertEqual(out.getvalue() + err.getvalue(), "")
