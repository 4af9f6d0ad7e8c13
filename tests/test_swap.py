"""swap: number 0 is what number 1 was, and the other way round, for all calls behind it."""

import unittest

from tests.helper import (
    DIAMOND, HALF_UNDONE, MADE_ALIKE, ONE_ARROW, ONE_THING, TWO_TURNS, after, alike, arrow, beside, both, changes, check,
    equalizer, flat, hom, kinds, last, make, maps, no_categories, nth, partner, product, pullback, run, start, swap, turn)


def everything_asked(i):
    """Each call that asks and changes nothing, some of them twice."""
    return [check(i), kinds(i, 2), kinds(i, 4), hom(i, 0, 1), last(i), product(i, 0, 1), pullback(i, 2, 2),
            pullback(i, 1, 2), equalizer(i, 2, 2), equalizer(i, 1, 4), maps(i), nth(i, 1), changes(i, 0, 1),
            alike(i, 0, 1), partner(i, 0), partner(i, 1)]


class Swap(unittest.TestCase):
    def test_answers_0(self):
        self.assertEqual(run(swap(), swap(), swap()), [[0]] * 3)

    def test_which_is_which_behind_it(self):
        told = both(HALF_UNDONE, ONE_ARROW)
        for i in (0, 1):
            self.assertEqual(after(told + [swap()], *everything_asked(i)), after(told, *everything_asked(1 - i)))

    def test_twice_is_as_it_was(self):
        told = both(HALF_UNDONE, ONE_ARROW)
        for i in (0, 1):
            self.assertEqual(after(told + [swap(), swap()], *everything_asked(i)), after(told, *everything_asked(i)))

    def test_where_mappings_lead(self):
        told = both(ONE_THING, ONE_ARROW)
        self.assertEqual(after(told, maps(0), maps(1), nth(0, 1), swap(), maps(0), maps(1), nth(1, 1), partner(0, 0)),
                         [[2], [1], [1], [0], [1], [2], [1], [1, 1, 2, 1]])

    def test_start_changes_the_one_it_names(self):
        told = both(HALF_UNDONE, MADE_ALIKE) + [swap(), start(0, 4)]
        self.assertEqual(after(told, turn(0), turn(1), check(1), swap(), turn(0), turn(1)), [[4], [5], [0], [0], [5], [4]])

    def test_arrow_changes_the_one_it_names(self):
        told = both(DIAMOND, TWO_TURNS) + [swap()]
        self.assertEqual(after(told, arrow(0, 0, 0), arrow(1, 0, 0), arrow(0, 1, 0), turn(0), turn(1)),
                         [[2], [-5], [-1], [3], [9]])
        self.assertEqual(after(told, arrow(0, 0, 0), swap(), turn(0), turn(1), check(0), check(1)),
                         [[2], [0], [9], [3], [0], [1, 1, 2]])

    def test_make_changes_the_one_it_names(self):
        told = both(TWO_TURNS, ONE_ARROW) + [swap()]
        self.assertEqual(after(told, make(0, 1, 1, 1), make(1, 1, 1, 1), kinds(1, 1), swap(), kinds(0, 1), kinds(1, 2)),
                         [[-1], [1], [32], [0], [32], [3]])

    def test_turn_changes_the_one_it_names(self):
        told = both(ONE_ARROW, beside(2)) + [swap(), turn(0)]
        self.assertEqual(after(told, hom(0, 1, 0), hom(1, 0, 1), swap(), hom(0, 0, 1), hom(1, 0, 1), turn(0), hom(0, 1, 0)),
                         [[2, 2, 3], [1, 2], [0], [1, 2], [0], [3], [1, 2]])

    def test_one_is_never_both(self):
        self.assertEqual(run(swap(), start(0, 2), swap(), turn(0), turn(1), start(0, 3), swap(), turn(0), turn(1), swap(),
                             turn(0), turn(1)), [[0], [2], [0], [1], [2], [3], [0], [2], [3], [0], [3], [2]])

    def test_where_one_is_no_category(self):
        for told in no_categories(1):
            fault = after(told, check(1))[0]
            self.assertEqual(after(told, swap(), check(0), check(1), last(0), last(1), maps(0), maps(1)),
                             [[0], fault, [0], [-6], [1, 0], [-6], [-6]])

    def test_refusals_behind_it(self):
        told = both(TWO_TURNS, DIAMOND) + [swap()]
        self.assertEqual(after(told, kinds(0, 8), kinds(0, 9), kinds(1, 2), pullback(1, 2, 0), equalizer(0, 4, 5), last(2)),
                         [[3], [-3], [-3], [-3], [-1], [-2]])


class AllCalls(unittest.TestCase):
    def test_both_in_one_list(self):
        steps = [
            (start(0, 2), [2]), (arrow(0, 0, 1), [2]), (arrow(0, 0, 1), [3]),
            (arrow(1, 0, 0), [1]), (check(1), [1, 1, 1]), (maps(0), [-6]), (make(1, 1, 1, 0), [0]),
            (check(0), [0]), (kinds(0, 2), [3]), (kinds(1, 1), [31]), (hom(0, 0, 1), [2, 2, 3]), (hom(0, 1, 0), [0]),
            (last(0), [0]), (last(1), [0]), (product(0, 0, 0), [1, 0, 0]), (product(1, 0, 0), [0]),
            (pullback(0, 2, 2), [1, 0, 0]), (pullback(0, 2, 3), [0]), (pullback(1, 0, 1), [1, 0, 1]),
            (equalizer(0, 2, 3), [0]), (equalizer(0, 3, 3), [1, 0]), (equalizer(1, 0, 1), [0]),
            # 0 to 1: both arrows go to 0 or 1; 1 to 0: all to one thing.
            (maps(0), [4]), (nth(0, 2), [0, 0, 1, 0]), (maps(1), [2]), (nth(1, 1), [1, 1]),
            (changes(0, 0, 3), [2, 0, 1]), (changes(0, 0, 1), [0]), (alike(0, 0, 3), [1]), (changes(1, 0, 1), [2, 2]),
            (alike(1, 0, 1), [0]), (partner(1, 0), [0]),
            (turn(0), [4]), (hom(0, 1, 0), [2, 2, 3]), (swap(), [0]), (kinds(0, 1), [31]), (hom(1, 0, 1), [0]),
            (changes(0, 1, 0), [2, 2]), (nth(1, 3), [0, 0, 1, 1]), (partner(0, 2), [-3]),
        ]
        self.assertEqual(len(steps), 40)
        self.assertEqual({call[0] for call, answer in steps}, set(range(17)))
        self.assertLessEqual(len(flat([call for call, answer in steps])), 240)
        self.assertEqual(run(*[call for call, answer in steps]), [answer for call, answer in steps])
