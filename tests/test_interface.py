"""How calls and answers stand in their lists, and what holds of answers() whatever is asked."""

import contextlib
import io
import unittest

from arrowsmake.categories import answers
from tests.helper import (
    HALF_UNDONE, MOST, ONE_AND_TWO, SAMPLES, after, arrow, check, flat, hom, kinds, last, make, product, start, turn)

# Each is refused right behind HALF_UNDONE.told(0), and must leave all as it was.
REFUSED = (
    (start(2, 1), -2), (start(0, 0), -1), (start(0, 5), -1), (start(0, MOST), -1),
    (arrow(MOST, 0, 0), -2), (arrow(0, 2, 0), -1), (arrow(0, 0, 2), -1),
    (make(2, 4, 4, 1), -2), (make(0, 5, 4, 1), -3), (make(0, 4, 5, 1), -3), (make(0, 4, 4, 5), -3),
    (make(0, 0, 2, 4), -1), (make(0, 2, 1, 4), -1), (make(0, 2, 2, 2), -1),
    (check(2), -2), (kinds(2, 0), -2), (kinds(0, 5), -3), (hom(2, 0, 0), -2), (hom(0, 2, 0), -1), (hom(0, 0, 2), -1),
    (turn(2), -2), (last(2), -2), (product(2, 0, 0), -2), (product(0, 2, 0), -1), (product(0, 0, 2), -1),
)


def everything_asked(i, sample):
    things = range(sample.things)
    calls = [check(i), last(i)] + [kinds(i, f) for f in range(len(sample.ways))]
    calls += [call for x in things for y in things for call in (hom(i, x, y), product(i, x, y))]
    return calls


class Lists(unittest.TestCase):
    def test_one_call(self):
        self.assertEqual(answers([3, 0]), [1, 0])
        self.assertEqual(answers([8, 1, 0, 0]), [3, 1, 0, 0])
        self.assertEqual(answers([0, 2, 1]), [1, -2])

    def test_counts_stand_ahead_of_each_answer(self):
        calls = [0, 0, 2, 1, 0, 0, 1, 1, 0, 1, 1, 3, 0, 2, 0, 2, 3, 2, 2, 0, 3, 3, 3,
                 3, 0, 4, 0, 2, 5, 0, 1, 1, 6, 0, 7, 0, 8, 0, 0, 1, 4, 0, 4]
        self.assertEqual(answers(calls), [1, 2, 1, 2, 1, 3, 3, 1, 2, 3, 1, 2, 1, 3,
                                          1, 0, 1, 1, 3, 2, 1, 3, 1, 4, 2, 1, 0, 3, 1, 2, 1, 1, -3])

    def test_number_0_to_8_are_told_by_their_places(self):
        self.assertEqual([answers(call)[0] for call in (
            [0, 0, 3], [1, 0, 0, 0], [2, 0, 1, 1, 1], [3, 0], [4, 0, 0], [5, 0, 0, 0], [6, 0], [7, 0], [8, 0, 0, 0])],
            [1, 1, 1, 1, 1, 2, 1, 2, 3])

    def test_forty_calls(self):
        told = ONE_AND_TWO.told(0)
        calls = told + [check(0)] * (40 - len(told))
        self.assertEqual(len(answers(flat(calls))), 80)


class Whatever(unittest.TestCase):
    def test_the_list_handed_in_is_as_it_was(self):
        for sample in SAMPLES:
            calls = flat(sample.told(0) + everything_asked(0, sample) + [turn(0), start(0, 9)])
            handed = list(calls)
            answers(handed)
            self.assertEqual(handed, calls)

    def test_the_list_given_back_is_its_own(self):
        calls = flat(ONE_AND_TWO.told(0) + [hom(0, 1, 1)])
        first = answers(calls)
        expected = list(first)
        first.clear()
        self.assertEqual(answers(calls), expected)

    def test_nothing_is_kept_from_one_run_to_the_next(self):
        fresh = answers([3, 0, 6, 0, 6, 1])
        for sample in SAMPLES:
            calls = flat(sample.told(0) + everything_asked(0, sample) + sample.told(1) + [turn(1)])
            self.assertEqual(answers(calls), answers(calls))
            self.assertEqual(answers([3, 0, 6, 0, 6, 1]), fresh)

    def test_nothing_is_printed(self):
        for stream in (contextlib.redirect_stdout, contextlib.redirect_stderr):
            with stream(io.StringIO()) as printed:
                answers(flat(HALF_UNDONE.told(0) + [start(0, 0), check(0)]))
            self.assertEqual(printed.getvalue(), "")

    def test_after_a_refusal_all_is_as_it_was(self):
        told = HALF_UNDONE.told(0)
        asked = everything_asked(0, HALF_UNDONE) + [turn(0), turn(1), arrow(0, 0, 0)]
        expected = after(told, *asked)
        for call, number in REFUSED:
            self.assertEqual(after(told, call, *asked), [[number]] + expected)

    def test_after_the_tenth_arrow_all_is_as_it_was(self):
        told = [start(0, 4)] + [arrow(0, 0, 1)] * 5
        asked = [check(0), hom(0, 0, 1), hom(0, 0, 3), turn(0)]
        self.assertEqual(after(told, arrow(0, 0, 3), *asked), [[-5]] + after(told, *asked))

    def test_after_no_category_all_is_as_it_was(self):
        told = [arrow(0, 0, 0)]
        for call in (kinds(0, 1), hom(0, 0, 0), last(0), product(0, 0, 0)):
            asked = [check(0), make(0, 1, 1, 1), kinds(0, 1), hom(0, 0, 0)]
            self.assertEqual(after(told, call, *asked), [[-6], [1, 1, 1], [1], [32], [2, 0, 1]])
