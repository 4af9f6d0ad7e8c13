"""start, arrow, make and turn: what they change, and what they refuse (points 1 and 2)."""

import unittest

from tests.helper import (
    MOST, ONE_AND_TWO, HALF_UNDONE, SAMPLES, after, alike, arrow, changes, check, equalizer, hom, kinds, last, make,
    maps, nth, partner, product, pullback, run, start, turn)

NINE = [arrow(0, 0, 0)] * 8


class WhichOfTheTwo(unittest.TestCase):
    def test_above_one_is_refused_at_each_call(self):
        for i in (2, 3, 16, MOST):
            calls = [start(i, 1), arrow(i, 0, 0), make(i, 1, 1, 1), check(i), kinds(i, 0),
                     hom(i, 0, 0), turn(i), last(i), product(i, 0, 0), pullback(i, 0, 0), equalizer(i, 0, 0),
                     maps(i), nth(i, 0), changes(i, 0, 0), alike(i, 0, 0), partner(i, 0)]
            self.assertEqual(run(*calls), [[-2]] * 16)

    def test_is_told_ahead_of_all_other_refusals(self):
        calls = [start(2, 0), arrow(2, 9, 9), make(2, 9, 9, 9), kinds(2, 9), hom(2, 9, 9), product(2, 9, 9),
                 pullback(2, 9, 9), equalizer(2, 9, 9), nth(2, 9), changes(2, 9, 9), alike(2, 9, 9), partner(2, 9)]
        self.assertEqual(run(*calls), [[-2]] * 12)
        # The one at hand is no category, either.
        self.assertEqual(after([arrow(0, 0, 0), arrow(1, 0, 0)], maps(2), *calls), [[-2]] * 13)

    def test_zero_and_one_are_there_with_one_thing_each(self):
        for i in (0, 1):
            self.assertEqual(run(check(i), hom(i, 0, 0), hom(i, 1, 0), turn(i), last(i)),
                             [[0], [1, 0], [-1], [1], [1, 0]])


class Start(unittest.TestCase):
    def test_one_to_four_things(self):
        for i in (0, 1):
            for n in (1, 2, 3, 4):
                self.assertEqual(run(start(i, n), turn(i), hom(i, n - 1, n - 1), hom(i, n, 0)),
                                 [[n], [n], [1, n - 1], [-1]])

    def test_other_counts_are_refused(self):
        for n in (0, 5, 6, MOST):
            self.assertEqual(run(start(0, n), start(1, n)), [[-1], [-1]])

    def test_refused_changes_nothing(self):
        for n in (0, 5, MOST):
            self.assertEqual(run(start(0, 3), arrow(0, 0, 2), start(0, n), hom(0, 0, 2)),
                             [[3], [3], [-1], [1, 3]])

    def test_forgets_arrows_and_what_they_make(self):
        told = [arrow(0, 0, 0), make(0, 1, 1, 1), start(0, 1)]
        self.assertEqual(after(told, turn(0), check(0), arrow(0, 0, 0), check(0)),
                         [[1], [0], [1], [1, 1, 1]])


class Arrow(unittest.TestCase):
    def test_numbers_go_on_behind_the_own_ones(self):
        self.assertEqual(run(start(0, 3), arrow(0, 0, 1), arrow(0, 0, 1), arrow(0, 2, 1), hom(0, 0, 1),
                             hom(0, 2, 1), hom(0, 1, 2)),
                         [[3], [3], [4], [5], [2, 3, 4], [1, 5], [0]])

    def test_no_such_thing(self):
        for x, y in ((2, 0), (0, 2), (2, 2), (MOST, 0), (0, MOST)):
            self.assertEqual(run(start(0, 2), arrow(0, x, y), turn(0)), [[2], [-1], [2]])

    def test_the_ninth_and_the_one_behind_it(self):
        self.assertEqual(run(*NINE), [[number] for number in range(1, 9)])
        self.assertEqual(after(NINE, arrow(0, 0, 0), arrow(0, 0, 0), turn(0)), [[-5], [-5], [9]])
        four = [start(1, 4)] + [arrow(1, 0, 3)] * 4
        self.assertEqual(after(four, arrow(1, 3, 0), arrow(1, 3, 0), turn(1)), [[8], [-5], [9]])

    def test_no_such_thing_is_told_ahead_of_nine_arrows(self):
        self.assertEqual(after(NINE, arrow(0, 1, 0), arrow(0, 0, 1), arrow(0, 0, 0)), [[-1], [-1], [-5]])

    def test_nine_of_one_leave_the_other_free(self):
        self.assertEqual(after(NINE, arrow(1, 0, 0), arrow(0, 0, 0)), [[1], [-5]])


class Make(unittest.TestCase):
    # Own arrows 0 and 1; 2 leads from 0 to 1, 3 back, 4 from 1 to 1.
    TOLD = [start(0, 2), arrow(0, 0, 1), arrow(0, 1, 0), arrow(0, 1, 1)]

    def refused(self, f, g, h, answer):
        told = self.TOLD + [make(0, 2, 3, 0), make(0, 2, 4, 2)]
        asked = [check(0), make(0, 3, 2, 4), make(0, 4, 3, 3), make(0, 4, 4, 4), check(0), kinds(0, 2), hom(0, 1, 1)]
        self.assertEqual(after(told, make(0, f, g, h), *asked), [answer] + after(told, *asked))

    def test_answers_the_arrow(self):
        self.assertEqual(after(self.TOLD, make(0, 2, 3, 0), make(0, 4, 4, 4), make(0, 2, 4, 3)),
                         [[0], [4], [3]])

    def test_no_such_arrow(self):
        for none in (5, 9, MOST):
            self.refused(none, 3, 0, [-3])
            self.refused(2, none, 0, [-3])
            self.refused(2, 3, none, [-3])
            self.refused(none, none, none, [-3])

    def test_own_arrows(self):
        for f, g in ((0, 2), (2, 1), (1, 4), (4, 1), (0, 0), (1, 1)):
            self.refused(f, g, 2, [-1])

    def test_two_that_do_not_meet(self):
        for f, g in ((2, 2), (3, 3), (3, 4), (4, 2)):
            self.refused(f, g, 2, [-1])

    def test_own_and_not_meeting_at_once(self):
        for f, g in ((0, 1), (0, 3), (2, 0), (1, 2)):
            self.refused(f, g, 2, [-1])

    def test_no_such_arrow_is_told_first(self):
        for f, g, h in ((0, 5, 0), (5, 1, 0), (0, 2, 5), (2, 2, 5), (0, 1, 5), (5, 0, 5)):
            self.refused(f, g, h, [-3])

    def test_once_more_holds_from_then_on(self):
        told = [arrow(0, 0, 0), make(0, 1, 1, 1)]
        self.assertEqual(after(told, kinds(0, 1), make(0, 1, 1, 0), kinds(0, 1), make(0, 1, 1, 1), kinds(0, 1)),
                         [[32], [0], [31], [1], [32]])

    def test_order_of_the_two(self):
        told = [start(0, 2), arrow(0, 0, 1), arrow(0, 1, 0), make(0, 3, 2, 1)]
        self.assertEqual(after(told, check(0)), [[1, 2, 3]])


class Turn(unittest.TestCase):
    def test_answers_how_many_arrows(self):
        self.assertEqual(run(turn(0), turn(1), start(0, 4), turn(0), arrow(0, 0, 1), turn(0)),
                         [[1], [1], [4], [4], [4], [5]])

    def test_arrows_lead_the_other_way(self):
        told = [start(0, 3), arrow(0, 0, 1), arrow(0, 0, 2), turn(0)]
        self.assertEqual(after(told, hom(0, 0, 1), hom(0, 1, 0), hom(0, 2, 0), hom(0, 2, 2)),
                         [[0], [1, 3], [1, 4], [1, 2]])

    def test_what_they_make_is_turned_too(self):
        told = ONE_AND_TWO.told(0) + [turn(0)]
        self.assertEqual(after(told, check(0), make(0, 4, 2, 3), check(0)), [[0], [3], [0]])
        self.assertEqual(after(told, make(0, 2, 4, 3)), [[-1]])
        for (f, g), h in ONE_AND_TWO.made.items():
            wrong = 2 if h != 2 else 3
            self.assertNotEqual(after(told, make(0, g, f, wrong), check(0))[1], [0])
            self.assertEqual(after(told, make(0, g, f, wrong), make(0, g, f, h), check(0))[2], [0])

    def test_where_it_is_no_category(self):
        told = [start(0, 2), arrow(0, 0, 1), arrow(0, 1, 0), make(0, 2, 3, 0)]
        self.assertEqual(after(told, check(0), turn(0), check(0), turn(0), check(0)),
                         [[1, 3, 2], [4], [1, 2, 3], [4], [1, 3, 2]])

    def test_told_behind_a_turn(self):
        told = [start(0, 3), arrow(0, 0, 1), turn(0), arrow(0, 2, 1), make(0, 4, 3, 3)]
        self.assertEqual(after(told, check(0), arrow(0, 2, 0), make(0, 4, 3, 5), check(0)),
                         [[2, 4, 3], [5], [5], [0]])

    def test_twice_is_as_it_was(self):
        for sample in SAMPLES:
            arrows = range(len(sample.ways))
            things = range(sample.things)
            asked = [check(0), last(0)] + [kinds(0, f) for f in arrows]
            asked += [call for x in things for y in things for call in (hom(0, x, y), product(0, x, y))]
            told = sample.told(0)
            self.assertEqual(after(told + [turn(0), turn(0)], *asked), after(told, *asked))

    def test_turned_kinds(self):
        told = HALF_UNDONE.told(1)
        self.assertEqual(after(told, kinds(1, 2), kinds(1, 3), turn(1), kinds(1, 2), kinds(1, 3)),
                         [[5], [10], [5], [10], [5]])


class TheTwo(unittest.TestCase):
    def test_each_call_changes_only_the_one_it_names(self):
        for i in (0, 1):
            told = HALF_UNDONE.told(1 - i)
            asked = [check(1 - i), hom(1 - i, 0, 1), kinds(1 - i, 2), kinds(1 - i, 3), last(1 - i),
                     product(1 - i, 0, 0)]
            expected = after(told, *asked)
            for further in ([start(i, 4)], [arrow(i, 0, 0)], [arrow(i, 0, 0), make(i, 1, 1, 0)], [turn(i)]):
                self.assertEqual(after(told + further, *asked), expected)

    def test_calls_about_both_one_behind_another(self):
        self.assertEqual(run(start(0, 2), arrow(1, 0, 0), arrow(0, 0, 1), check(1), check(0), make(1, 1, 1, 0),
                             kinds(1, 1), kinds(0, 2), turn(0), hom(0, 1, 0), hom(1, 0, 0)),
                         [[2], [1], [2], [1, 1, 1], [0], [0], [31], [3], [3], [1, 2], [2, 0, 1]])
