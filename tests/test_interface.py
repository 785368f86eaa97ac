"""How calls are handed in and answers given back, whatever the calls are."""

import contextlib
import io
import unittest

from sunbeds.plot import answers
from tests.lines import GREATEST, asked, begins, hour, joined, level, plant, stands, taken_apart

LINE = joined([
    begins(2, 3, 5, 8), level(4, 20), level(6, 1), stands(1, 30), stands(1, 1001), hour(0, 5),
    hour(8, 5), plant(30, 2, 50, 1, 5), plant(30, 2, 50, 1, 6), begins(3, 3), plant(),
])
ANSWERED = [1, 0, 1, 0, 1, -2, 1, 0, 1, -1, 1, 0, 1, -1, 1, 0, 1, -1, 1, -1, 1, 1]


class Unchanged(list):
    """A list that tells at once when it is changed, even if it were set right again later."""


def refuse_change(*told, **named):
    raise AssertionError("what was handed in was changed")


for changing in ("__setitem__", "__delitem__", "__iadd__", "__imul__", "append", "clear", "extend",
                 "insert", "pop", "remove", "reverse", "sort"):
    setattr(Unchanged, changing, refuse_change)


class TheLists(unittest.TestCase):
    def test_calls_as_the_document_writes_them(self):
        self.assertEqual(answers([0, 4, 2, 3, 5, 8, 0]), [1, 0])
        self.assertEqual(answers([1, 2, 0, 1000, 0]), [1, 0])
        self.assertEqual(answers([2, 2, 1, 0, 0]), [1, -2])
        self.assertEqual(answers([3, 2, 7, 1000, 0]), [1, 0])
        self.assertEqual(answers([4, 5, 1, 0, 0, 1, 1, 0]), [1, 0])

    def test_each_call_is_answered_in_order(self):
        self.assertEqual(answers(LINE), ANSWERED)

    def test_sixty_calls(self):
        calls = [begins(2, 4, 1000, 1000)]
        calls += [level(place, GREATEST) for place in range(8)] + [stands(place, 1000) for place in range(8)]
        calls += [hour(3, 1000)] * 20 + [plant(1000, 8, 100000, 5, 1000)] * 23
        self.assertEqual(len(calls), 60)
        told = [0] + [-1] * 8 + [0] * 8 + list(range(8)) + [-5] * 12 + [0, 1, 2] + [-5] * 20
        self.assertEqual(asked(*calls), told)

    def test_the_greatest_number_everywhere(self):
        most = GREATEST
        self.assertEqual(
            asked(begins(most, most, most, most), level(most, most), stands(most, most),
                  hour(most, most), plant(most, most, most, most, most)),
            [-1, -2, -2, -1, -1],
        )

    def test_whole_numbers_in_a_list(self):
        answered = answers(LINE)
        self.assertIs(type(answered), list)
        self.assertEqual({type(number) for number in answered}, {int})

    def test_a_refusal_is_alone(self):
        for part in taken_apart(answers(LINE)):
            self.assertEqual(len(part), 1)


class WhatIsHandedIn(unittest.TestCase):
    def test_it_is_as_it_was(self):
        handed = list(LINE)
        answers(handed)
        self.assertEqual(handed, LINE)

    def test_it_is_not_changed_for_a_while_either(self):
        self.assertEqual(answers(Unchanged(LINE)), ANSWERED)

    def test_what_is_given_back_is_another_list(self):
        handed = list(LINE)
        self.assertIsNot(answers(handed), handed)


class NothingIsKept(unittest.TestCase):
    def test_the_same_list_asked_twice_is_answered_alike(self):
        handed = list(LINE)
        first = answers(handed)
        self.assertEqual(first, ANSWERED)
        self.assertEqual(answers(handed), first)

    def test_an_answer_changed_by_its_reader_changes_no_other(self):
        first = answers(LINE)
        first.clear()
        self.assertEqual(answers(LINE), ANSWERED)

    def test_each_line_begins_anew(self):
        asked(begins(2, 4, 1000, 1000), *[hour()] * 8, *[plant()] * 3, level(0, 9), stands(0, 9))
        self.assertEqual(
            asked(hour(), plant(water=2), plant(water=1), level(1, 0), stands(1, 0)), [0, -1, 0, -2, -2]
        )

    def test_nothing_is_printed(self):
        out, err = io.StringIO(), io.StringIO()
        with contextlib.redirect_stdout(out), contextlib.redirect_stderr(err):
            answers(LINE)
        self.assertEqual(out.getvalue() + err.getvalue(), "")
