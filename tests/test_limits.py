"""pullback and equalizer: what they answer and refuse (points 3 and 4)."""

import itertools
import unittest

from tests.helper import (
    DIAMOND, DISCRETE, HALF_UNDONE, MADE_ALIKE, MOST, ONE_AND_TWO, ONE_ARROW, SAMPLES, TWO_THE_SAME, TWO_TURNING,
    TWO_TURNS, Sample, after, arrow, asked, check, equalizer, make, no_categories, of_order, product, pullback, run,
    turn)

# Arrow 3 turns thing 0; 4 and 5, which it takes to one another, make 8 with 6 and with 7.
TURNED_AHEAD = Sample(3, [(0, 0), (0, 1), (0, 1), (1, 2), (1, 2), (0, 2)], {
    (3, 3): 0, (3, 4): 5, (3, 5): 4, (3, 8): 8,
    (4, 6): 8, (4, 7): 8, (5, 6): 8, (5, 7): 8})
# Arrow 4 makes 7 with 5 and with 6; arrow 3, not an own one, makes 4 with 4.
KEPT_AHEAD = Sample(3, [(0, 0), (0, 1), (1, 2), (1, 2), (0, 2)], {
    (3, 3): 3, (3, 4): 4, (3, 7): 7, (4, 5): 7, (4, 6): 7})
# Arrows 3 and 4 make 7 with 5 and with 6, but neither comes by the other.
TWO_AHEAD = Sample(3, [(0, 1), (0, 1), (1, 2), (1, 2), (0, 2)], {(3, 5): 7, (3, 6): 7, (4, 5): 7, (4, 6): 7})
# Arrows 4 and 5 make 8 with 6 and with 7; 4 comes by 5, which stands behind it, with 3 ahead.
LATER_AHEAD = Sample(3, [(0, 0), (0, 1), (0, 1), (1, 2), (1, 2), (0, 2)], {
    (3, 3): 3, (3, 4): 4, (3, 5): 4, (3, 8): 8, (4, 6): 8, (4, 7): 8, (5, 6): 8, (5, 7): 8})
MORE_SAMPLES = SAMPLES + (TURNED_AHEAD, KEPT_AHEAD, TWO_AHEAD, LATER_AHEAD, of_order(3, [(0, 2), (1, 2)]))


def pullback_by_words(sample, f, g):
    x, y = sample.ways[f][0], sample.ways[g][0]
    cones = [(u, v) for p in range(sample.things) for u in sample.leading(p, x) for v in sample.leading(p, y)
             if sample.makes(u, f) == sample.makes(v, g)]
    for first, second in cones:
        to = sample.ending(sample.ways[first][0])
        come = [(sample.makes(m, first), sample.makes(m, second)) for m in to]
        if sorted(come) == sorted(cones):
            return [1, first, second]
    return [0]


def equalizer_by_words(sample, f, g):
    equal = [u for u in sample.ending(sample.ways[f][0]) if sample.makes(u, f) == sample.makes(u, g)]
    for first in equal:
        if sorted(sample.makes(m, first) for m in sample.ending(sample.ways[first][0])) == equal:
            return [1, first]
    return [0]


class Pullback(unittest.TestCase):
    def one(self, sample, f, g):
        return after(sample.told(0), pullback(0, f, g))[0]

    def test_in_an_order(self):
        self.assertEqual(self.one(DIAMOND, 7, 8), [1, 4, 5])
        self.assertEqual(self.one(DIAMOND, 8, 7), [1, 5, 4])
        self.assertEqual(self.one(DIAMOND, 7, 6), [1, 4, 0])
        self.assertEqual(after(DIAMOND.told(1), turn(1), pullback(1, 4, 5)), [[9], [1, 7, 8]])

    def test_in_sets(self):
        self.assertEqual(self.one(ONE_AND_TWO, 2, 5), [1, 7, 1])
        self.assertEqual(self.one(ONE_AND_TWO, 5, 2), [1, 1, 7])
        self.assertEqual(self.one(ONE_AND_TWO, 2, 4), [1, 0, 3])

    def test_not_there(self):
        # No two arrows make the same with 2 and with 3; of 7 and 7 there are too many.
        self.assertEqual(self.one(ONE_AND_TWO, 2, 3), [0])
        self.assertEqual(self.one(ONE_AND_TWO, 7, 7), [0])
        self.assertEqual(self.one(of_order(3, [(0, 2), (1, 2)]), 3, 4), [0])

    def test_only_what_makes_the_same_must_come(self):
        # Not all pairs of arrows to thing 0 come by two arrows, so there's no product.
        self.assertEqual(after(TWO_TURNS.told(0), product(0, 0, 0), pullback(0, 0, 0)), [[0], [1, 0, 0]])

    def test_of_an_arrow_with_itself(self):
        self.assertEqual(self.one(DIAMOND, 7, 7), [1, 1, 1])
        self.assertEqual(self.one(ONE_AND_TWO, 4, 4), [1, 1, 1])
        self.assertEqual(self.one(ONE_AND_TWO, 2, 2), [1, 0, 0])
        self.assertEqual(self.one(ONE_AND_TWO, 5, 5), [0])
        self.assertEqual(self.one(TWO_TURNS, 1, 1), [1, 0, 0])

    def test_of_own_arrows(self):
        self.assertEqual(run(pullback(0, 0, 0), pullback(1, 0, 0)), [[1, 0, 0]] * 2)
        self.assertEqual(self.one(DISCRETE, 1, 1), [1, 1, 1])
        self.assertEqual(self.one(DIAMOND, 3, 3), [1, 3, 3])
        self.assertEqual(self.one(DIAMOND, 3, 7), [1, 7, 1])
        self.assertEqual(self.one(DIAMOND, 7, 3), [1, 1, 7])
        self.assertEqual(self.one(ONE_ARROW, 1, 2), [1, 2, 0])

    def test_the_first_of_several_things(self):
        self.assertEqual(self.one(TWO_THE_SAME, 1, 1), [1, 2, 2])
        self.assertEqual(self.one(TWO_THE_SAME, 0, 3), [1, 0, 2])
        self.assertEqual(self.one(TWO_THE_SAME, 3, 0), [1, 2, 0])

    def test_the_first_of_several_arrows(self):
        self.assertEqual(self.one(TWO_TURNS, 0, 1), [1, 0, 1])
        self.assertEqual(self.one(TWO_TURNS, 1, 0), [1, 0, 1])
        self.assertEqual(self.one(TWO_TURNING, 1, 1), [1, 4, 4])
        self.assertEqual(self.one(TWO_TURNING, 1, 3), [1, 4, 5])

    def test_by_the_words(self):
        for sample in MORE_SAMPLES:
            arrows = range(len(sample.ways))
            pairs = [(f, g) for f in arrows for g in arrows if sample.ways[f][1] == sample.ways[g][1]]
            self.assertEqual(asked(sample.told(0), [pullback(0, f, g) for f, g in pairs]),
                             [pullback_by_words(sample, f, g) for f, g in pairs])

    def test_two_that_do_not_end_at_one_thing(self):
        for f, g in ((4, 5), (7, 4), (0, 1), (3, 0), (6, 2)):
            self.assertEqual(self.one(DIAMOND, f, g), [-1])
        # These two begin at one thing and end at two.
        self.assertEqual(self.one(HALF_UNDONE, 3, 4), [-1])


class Equalizer(unittest.TestCase):
    def one(self, sample, f, g):
        return after(sample.told(0), equalizer(0, f, g))[0]

    def test_there(self):
        self.assertEqual(self.one(ONE_AND_TWO, 1, 5), [1, 2])
        self.assertEqual(self.one(ONE_AND_TWO, 5, 1), [1, 2])
        self.assertEqual(self.one(ONE_AND_TWO, 1, 6), [1, 3])
        self.assertEqual(self.one(ONE_AND_TWO, 4, 5), [1, 3])
        self.assertEqual(self.one(MADE_ALIKE, 4, 5), [1, 3])
        self.assertEqual(self.one(HALF_UNDONE, 1, 4), [1, 2])

    def test_not_there(self):
        self.assertEqual(self.one(ONE_AND_TWO, 1, 4), [0])
        self.assertEqual(self.one(ONE_AND_TWO, 5, 6), [0])
        self.assertEqual(self.one(ONE_AND_TWO, 2, 3), [0])
        self.assertEqual(self.one(TWO_TURNS, 0, 1), [0])
        self.assertEqual(after(MADE_ALIKE.told(1), turn(1), equalizer(1, 4, 5)), [[7], [0]])

    def test_of_an_arrow_with_itself(self):
        for sample in (DIAMOND, ONE_AND_TWO, HALF_UNDONE, TWO_TURNING):
            calls = [equalizer(0, f, f) for f in range(len(sample.ways))]
            self.assertEqual(asked(sample.told(0), calls), [[1, x] for x, y in sample.ways])

    def test_of_own_arrows(self):
        self.assertEqual(run(equalizer(0, 0, 0), equalizer(1, 0, 0)), [[1, 0]] * 2)
        self.assertEqual(self.one(DIAMOND, 3, 3), [1, 3])
        self.assertEqual(self.one(DISCRETE, 1, 1), [1, 1])

    def test_the_first_of_several(self):
        self.assertEqual(after(TURNED_AHEAD.told(0), check(0), equalizer(0, 6, 7), equalizer(0, 7, 6)),
                         [[0], [1, 4], [1, 4]])

    def test_all_that_make_the_same_must_come(self):
        self.assertEqual(after(TWO_AHEAD.told(0), check(0), equalizer(0, 5, 6)), [[0], [0]])
        self.assertEqual(after(LATER_AHEAD.told(0), check(0), equalizer(0, 6, 7)), [[0], [1, 5]])

    def test_more_than_one_way_is_none(self):
        self.assertEqual(after(KEPT_AHEAD.told(0), check(0), equalizer(0, 5, 6)), [[0], [0]])

    def test_by_the_words(self):
        for sample in MORE_SAMPLES:
            arrows = range(len(sample.ways))
            pairs = [(f, g) for f in arrows for g in arrows if sample.ways[f] == sample.ways[g]]
            self.assertEqual(asked(sample.told(0), [equalizer(0, f, g) for f, g in pairs]),
                             [equalizer_by_words(sample, f, g) for f, g in pairs])

    def test_two_that_are_not_side_by_side(self):
        # They begin at one thing alone, end at one thing alone, or neither.
        for f, g in ((4, 5), (6, 7), (4, 8), (0, 1), (0, 4), (3, 6)):
            self.assertEqual(self.one(DIAMOND, f, g), [-1])
        self.assertEqual(self.one(TWO_THE_SAME, 2, 3), [-1])


class Refusals(unittest.TestCase):
    CALLS = (pullback, equalizer)

    def test_no_category(self):
        for call, i in itertools.product(self.CALLS, (0, 1)):
            for told in no_categories(i):
                # No category is told ahead of arrows that there aren't and of those that don't fit.
                for f, g in ((0, 0), (0, 9), (9, 0), (MOST, MOST), (0, 1)):
                    self.assertEqual(after(told, call(i, f, g)), [[-6]])

    def test_only_the_other_is_no_category(self):
        for i in (0, 1):
            for told in no_categories(1 - i):
                self.assertEqual(after(told, pullback(i, 0, 0), equalizer(i, 0, 0), pullback(i, 0, 1)),
                                 [[1, 0, 0], [1, 0], [-3]])

    def test_no_more_once_it_is_one(self):
        self.assertEqual(run(arrow(0, 0, 0), equalizer(0, 1, 1), pullback(0, 1, 1), make(0, 1, 1, 0),
                             equalizer(0, 1, 1), pullback(0, 1, 1)), [[1], [-6], [-6], [0], [1, 0], [1, 0, 0]])

    def test_no_such_arrow(self):
        for call in self.CALLS:
            for none in (9, 10, MOST):
                for f, g in ((none, 7), (7, none), (none, none)):
                    self.assertEqual(after(DIAMOND.told(1), call(1, f, g)), [[-3]])
            self.assertEqual(run(call(0, 0, 1), call(0, 1, 0), call(1, 1, 1)), [[-3]] * 3)

    def test_no_such_arrow_is_told_ahead_of_not_fitting(self):
        for call in self.CALLS:
            for x in range(9):
                self.assertEqual(after(DIAMOND.told(0), call(0, x, 9), call(0, 9, x), call(0, 0, 1)), [[-3], [-3], [-1]])

    def test_above_one_is_told_ahead_of_all(self):
        for call in self.CALLS:
            for i in (2, MOST):
                for told in ([],) + no_categories(0):
                    self.assertEqual(after(told, call(i, 0, 0), call(i, 9, 9), call(i, 0, 1)), [[-2]] * 3)
