"""How calls and answers stand in their lists, and what holds of answers() whatever is asked."""

import contextlib
import io
import unittest

from arrowsmake.categories import answers
from tests.helper import (
    HALF_UNDONE, MOST, ONE_AND_TWO, ONE_ARROW, SAMPLES, after, alike, arrow, asked, beside, both, changes, check,
    equalizer, flat, hom, kinds, last, make, maps, nth, partner, product, pullback, run, start, swap, turn)

# Each is refused right behind both(HALF_UNDONE, ONE_ARROW), and must leave all as it was.
REFUSED = (
    (start(2, 1), -2), (start(0, 0), -1), (start(0, 5), -1), (start(0, MOST), -1),
    (arrow(MOST, 0, 0), -2), (arrow(0, 2, 0), -1), (arrow(0, 0, 2), -1),
    (make(2, 4, 4, 1), -2), (make(0, 5, 4, 1), -3), (make(0, 4, 5, 1), -3), (make(0, 4, 4, 5), -3),
    (make(0, 0, 2, 4), -1), (make(0, 2, 1, 4), -1), (make(0, 2, 2, 2), -1),
    (check(2), -2), (kinds(2, 0), -2), (kinds(0, 5), -3), (hom(2, 0, 0), -2), (hom(0, 2, 0), -1), (hom(0, 0, 2), -1),
    (turn(2), -2), (last(2), -2), (product(2, 0, 0), -2), (product(0, 2, 0), -1), (product(0, 0, 2), -1),
    (pullback(2, 0, 0), -2), (pullback(0, 5, 0), -3), (pullback(0, 0, 5), -3), (pullback(0, 2, 3), -1),
    (equalizer(2, 0, 0), -2), (equalizer(0, 5, 0), -3), (equalizer(0, 0, 5), -3), (equalizer(0, 3, 4), -1),
    (maps(2), -2), (nth(2, 0), -2), (nth(0, MOST), -3), (changes(2, 0, 0), -2), (changes(0, MOST, 0), -3),
    (changes(0, 0, MOST), -3), (alike(2, 0, 0), -2), (alike(1, MOST, 0), -3), (alike(1, 0, MOST), -3),
    (partner(2, 0), -2), (partner(1, MOST), -3),
)


class Unchanging(list):
    """A list that fails as soon as somebody changes it."""

    def fail(self, *args, **kwargs):
        raise AssertionError("the list handed in is changed")

    append = clear = extend = insert = pop = remove = reverse = sort = fail
    __setitem__ = __delitem__ = __iadd__ = __imul__ = fail


def everything_asked(i, sample):
    things = range(sample.things)
    calls = [check(i), last(i)] + [kinds(i, f) for f in range(len(sample.ways))]
    calls += [call for x in things for y in things for call in (hom(i, x, y), product(i, x, y))]
    calls += [pullback(i, 0, 0), equalizer(i, 0, 0), pullback(i, sample.things, 0), maps(i), nth(i, 0), nth(i, 1),
              changes(i, 0, 0), changes(i, 0, 1), alike(i, 0, 1), partner(i, 0), partner(i, 1)]
    return calls


class Lists(unittest.TestCase):
    def test_one_call(self):
        self.assertEqual(answers([3, 0]), [1, 0])
        self.assertEqual(answers([8, 1, 0, 0]), [3, 1, 0, 0])
        self.assertEqual(answers([0, 2, 1]), [1, -2])

    def test_counts_stand_ahead_of_each_answer(self):
        calls = [0, 0, 2, 1, 0, 0, 1, 1, 0, 1, 1, 3, 0, 2, 0, 2, 3, 2, 2, 0, 3, 3, 3,
                 3, 0, 4, 0, 2, 5, 0, 1, 1, 6, 0, 7, 0, 8, 0, 0, 1, 4, 0, 4]
        self.assertEqual(answers(calls), [1, 2, 1, 2, 1, 3, 3, 1, 2, 3, 1, 2, 1, 3,
                                          1, 0, 1, 1, 3, 2, 1, 3, 1, 4, 2, 1, 0, 3, 1, 2, 1, 1, -3])

    def test_all_are_told_by_their_numbers(self):
        self.assertEqual([answers(call) for call in (
            [0, 0, 3], [1, 0, 0, 0], [2, 0, 0, 0, 0], [3, 0], [4, 0, 0], [5, 0, 0, 0], [6, 0], [7, 0], [8, 0, 0, 0],
            [9, 0, 0, 0], [10, 0, 0, 0], [11, 0], [12, 0, 0], [13, 0, 0, 0], [14, 0, 0, 0], [15, 0, 0], [16])],
            [[1, 3], [1, 1], [1, -1], [1, 0], [1, 63], [2, 1, 0], [1, 1], [2, 1, 0], [3, 1, 0, 0],
             [3, 1, 0, 0], [2, 1, 0], [1, 1], [1, 0], [2, 1, 0], [1, 1], [3, 1, 0, 0], [1, 0]])

    def test_how_many_numbers_are_answered(self):
        # Number 0 has five arrows and two things, number 1 three arrows and two things.
        told = both(HALF_UNDONE, ONE_ARROW)
        calls = [nth(0, 0), nth(1, 0), changes(0, 0, 0), changes(0, 1, 0), changes(1, 0, 0), partner(0, 0), partner(0, 1),
                 partner(1, 0), alike(0, 0, 0), maps(0), pullback(0, 2, 2), equalizer(0, 2, 2)]
        self.assertEqual([len(answer) for answer in after(told, *calls)], [5, 3, 3, 1, 3, 6, 1, 8, 1, 1, 3, 2])
        self.assertEqual(after(told, partner(0, 0), partner(1, 0)), [[1, 0, 0, 0, 0, 3], [1, 1, 1, 1, 1, 1, 2, 1]])

    def test_counts_stand_ahead_of_the_later_calls_too(self):
        calls = [0, 1, 2, 1, 1, 0, 1, 9, 1, 2, 2, 10, 1, 2, 2, 11, 0, 12, 0, 1, 13, 0, 0, 1, 13, 0, 1, 0, 14, 0, 0, 1,
                 15, 0, 0, 15, 0, 1, 16, 15, 0, 0, 12, 0, 0, 12, 0, 1]
        self.assertEqual(answers(calls), [1, 2, 1, 2, 3, 1, 0, 0, 2, 1, 0, 1, 2, 1, 1, 2, 1, 2, 1, 0, 1, 0,
                                          5, 1, 0, 0, 0, 0, 1, 0, 1, 0, 4, 1, 1, 2, 1, 3, 0, 0, 0, 1, -3])

    def test_forty_calls(self):
        told = ONE_AND_TWO.told(0)
        calls = told + [check(0)] * (40 - len(told))
        self.assertEqual(len(answers(flat(calls))), 80)
        told = both(beside(7), beside(7))
        calls = told + [nth(0, 7 ** 7)] * 8 + [changes(0, 7 ** 7, 7 ** 7 + 1)] * 8 + [partner(0, 0)] * 8
        self.assertEqual(len(calls), 40)
        self.assertEqual(run(*calls)[16:], [[0, 1] + [8] * 7] * 8 + [[1, 8, 1]] * 8 + [[-7]] * 8)

    def test_240_numbers(self):
        # No call has more than five, so these are more than forty: the list goes on being answered.
        told = HALF_UNDONE.told(0)
        calls = told + [make(0, 4, 4, 4)] * 36 + [hom(0, 1, 1)] * 5
        self.assertEqual(len(flat(calls)), 240)
        self.assertEqual(run(*calls)[-1], [2, 1, 4])
        # Forty of the longest ones.
        calls = [arrow(0, 0, 0)] + [make(0, 1, 1, 0), pullback(0, 1, 1)] * 19 + [changes(0, 0, 1)]
        self.assertEqual(run(*calls), [[1]] + [[0], [1, 0, 0]] * 19 + [[-3]])


class Whatever(unittest.TestCase):
    def test_the_list_handed_in_is_as_it_was(self):
        for sample in SAMPLES:
            calls = flat(sample.told(0) + everything_asked(0, sample) + [turn(0), start(0, 9), swap(), partner(0, 0)])
            handed = list(calls)
            answers(handed)
            self.assertEqual(handed, calls)

    def test_nor_is_it_changed_for_a_while(self):
        calls = flat(both(HALF_UNDONE, ONE_ARROW) + [nth(0, 1), changes(0, 0, 1), partner(1, 1), swap(), maps(0)])
        self.assertEqual(answers(Unchanging(calls)), answers(calls))

    def test_the_list_given_back_is_its_own(self):
        calls = flat(ONE_AND_TWO.told(0) + [hom(0, 1, 1)])
        first = answers(calls)
        expected = list(first)
        first.clear()
        self.assertEqual(answers(calls), expected)

    def test_nothing_is_kept_from_one_run_to_the_next(self):
        fresh = answers([3, 0, 6, 0, 6, 1])
        for sample in SAMPLES:
            calls = flat(sample.told(0) + everything_asked(0, sample) + sample.told(1) + [turn(1), swap(), start(1, 2)])
            self.assertEqual(answers(calls), answers(calls))
            self.assertEqual(answers([3, 0, 6, 0, 6, 1]), fresh)

    def test_nothing_is_printed(self):
        for stream in (contextlib.redirect_stdout, contextlib.redirect_stderr):
            with stream(io.StringIO()) as printed:
                answers(flat(HALF_UNDONE.told(0) + [start(0, 0)] + everything_asked(0, HALF_UNDONE) + [swap()]))
            self.assertEqual(printed.getvalue(), "")

    def test_after_a_refusal_all_is_as_it_was(self):
        told = both(HALF_UNDONE, ONE_ARROW)
        calls = everything_asked(0, HALF_UNDONE) + everything_asked(1, ONE_ARROW)
        changing = [turn(0), turn(1), arrow(0, 0, 0), swap(), check(0), check(1)]
        expected = asked(told, calls)
        changed = after(told, *changing)
        for call, number in REFUSED:
            self.assertEqual(after(told, call), [[number]])
            self.assertEqual(asked(told + [call], calls), expected)
            self.assertEqual(after(told + [call], *changing), changed)

    def test_after_too_many_mappings_all_is_as_it_was(self):
        told = both(beside(5), beside(5))
        calls = [maps(0), maps(1), nth(0, 3125), check(0), check(1), turn(0), turn(1), hom(0, 1, 0)]
        self.assertEqual(after(told, partner(0, 1), partner(1, 1), *calls), [[-7], [-7]] + after(told, *calls))

    def test_after_the_tenth_arrow_all_is_as_it_was(self):
        told = [start(0, 4)] + [arrow(0, 0, 1)] * 5
        calls = [check(0), hom(0, 0, 1), hom(0, 0, 3), turn(0)]
        self.assertEqual(after(told, arrow(0, 0, 3), *calls), [[-5]] + after(told, *calls))

    def test_after_no_category_all_is_as_it_was(self):
        told = [arrow(0, 0, 0)]
        for call in (kinds(0, 1), hom(0, 0, 0), last(0), product(0, 0, 0), pullback(0, 1, 1), equalizer(0, 1, 1),
                     maps(0), nth(0, 0), changes(0, 0, 0), alike(0, 0, 0), partner(0, 0), maps(1), partner(1, 0)):
            calls = [check(0), make(0, 1, 1, 1), kinds(0, 1), hom(0, 0, 0), maps(0), maps(1), check(1)]
            self.assertEqual(after(told, call, *calls), [[-6], [1, 1, 1], [1], [32], [2, 0, 1], [1], [1], [0]])
