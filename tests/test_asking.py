"""check, kinds, hom, last and product: what they answer and refuse (points 3 and 4)."""

import itertools
import unittest

from tests.helper import (
    DIAMOND, DISCRETE, FORGETS, HALF_UNDONE, MADE_ALIKE, MOST, ONE_AND_TWO, ONE_ARROW, SAMPLES, TWO_THE_SAME,
    TWO_TURNS, Sample, after, arrow, check, hom, kinds, last, make, no_categories, of_order, product, run, start, turn)

NO_CATEGORIES = no_categories(0)


def first_fault(sample):
    """check by the document's words, over all pairs and threes in order."""
    arrows = range(len(sample.ways))
    meets = {(f, g) for f in arrows for g in arrows if sample.ways[f][1] == sample.ways[g][0]}
    for f, g in sorted(meets):
        told = f < sample.things or g < sample.things or (f, g) in sample.made
        if not told:
            return [1, f, g]
        if sample.ways[sample.makes(f, g)] != (sample.ways[f][0], sample.ways[g][1]):
            return [2, f, g]
    for f, g, h in itertools.product(arrows, repeat=3):
        if (f, g) in meets and (g, h) in meets:
            if sample.makes(sample.makes(f, g), h) != sample.makes(f, sample.makes(g, h)):
                return [3, f, g, h]
    return [0]


def kinds_by_words(sample, f):
    begin, end = sample.ways[f]
    arrows = range(len(sample.ways))
    ahead = [u for u in arrows if sample.ways[u][1] == begin]
    behind = [u for u in arrows if sample.ways[u][0] == end]
    back = [u for u in arrows if sample.ways[u] == (end, begin)]
    left = [g for g in back if sample.makes(f, g) == begin]
    right = [g for g in back if sample.makes(g, f) == end]
    # Arrows that make the same with f are side by side where they begin (or end) alike.
    apart = len({(sample.ways[u][0], sample.makes(u, f)) for u in ahead}) == len(ahead)
    turned = len({(sample.ways[u][1], sample.makes(f, u)) for u in behind}) == len(behind)
    itself = begin == end and sample.makes(f, f) == f
    return apart + 2 * turned + 4 * bool(left) + 8 * bool(right) + 16 * bool(set(left) & set(right)) + 32 * itself


def product_by_words(sample, x, y):
    arrows = range(len(sample.ways))
    things = range(sample.things)

    def leading(w, z):
        return [f for f in arrows if sample.ways[f] == (w, z)]

    for p in things:
        for first, second in itertools.product(leading(p, x), leading(p, y)):
            if all(sorted((sample.makes(m, first), sample.makes(m, second)) for m in leading(w, p))
                   == sorted(itertools.product(leading(w, x), leading(w, y))) for w in things):
                return [1, first, second]
    return [0]


def one_thing_samples():
    """All that can be told of one thing with two more arrows."""
    pairs = list(itertools.product((1, 2), repeat=2))
    for made in itertools.product((0, 1, 2), repeat=4):
        yield Sample(1, [(0, 0), (0, 0)], dict(zip(pairs, made)))


class Check(unittest.TestCase):
    def test_categories(self):
        for sample in SAMPLES:
            self.assertEqual(after(sample.told(0), check(0)), [[0]])
            self.assertEqual(after(sample.told(1), check(1)), [[0]])

    def test_not_told(self):
        self.assertEqual(run(arrow(0, 0, 0), check(0), make(0, 1, 1, 0), check(0)), [[1], [1, 1, 1], [0], [0]])
        self.assertEqual(run(start(0, 3), arrow(0, 1, 2), arrow(0, 0, 1), check(0)), [[3], [3], [4], [1, 4, 3]])

    def test_leads_elsewhere(self):
        # 3 leads from 0 to 1, 4 from 1 to 2, 5 from 0 to 2.
        told = [start(0, 3), arrow(0, 0, 1), arrow(0, 1, 2), arrow(0, 0, 2)]
        for h in (0, 1, 2, 3, 4):
            self.assertEqual(after(told, make(0, 3, 4, h), check(0)), [[h], [2, 3, 4]])
        self.assertEqual(after(told, make(0, 3, 4, 5), check(0)), [[5], [0]])

    def test_not_the_same(self):
        self.assertEqual(after(NO_CATEGORIES[2], check(0)), [[3, 1, 1, 1]])

    def test_own_arrow_made_by_others(self):
        told = TWO_THE_SAME.told(0)
        self.assertEqual(after(told, check(0), make(0, 2, 3, 1), check(0)), [[0], [1], [2, 2, 3]])

    def test_first_of_faults_1_and_2_is_by_the_pair(self):
        told = [start(0, 2), arrow(0, 0, 0), arrow(0, 0, 0), make(0, 2, 2, 2)]
        self.assertEqual(after(told, check(0), make(0, 3, 2, 1), make(0, 3, 3, 1), check(0)),
                         [[1, 2, 3], [1], [1], [1, 2, 3]])
        self.assertEqual(after(told, make(0, 2, 3, 1), check(0)), [[1], [2, 2, 3]])
        self.assertEqual(after(told, make(0, 2, 2, 1), make(0, 2, 3, 3), check(0)), [[1], [3], [2, 2, 2]])
        self.assertEqual(after(told, make(0, 2, 3, 3), make(0, 3, 3, 1), check(0)), [[3], [1], [1, 3, 2]])

    def test_a_pair_with_a_fault_is_told_ahead_of_three(self):
        told = [arrow(0, 0, 0), arrow(0, 0, 0), make(0, 1, 1, 2), make(0, 1, 2, 1), make(0, 2, 1, 2)]
        self.assertEqual(after(told, check(0), make(0, 2, 2, 2), check(0)), [[1, 2, 2], [2], [3, 1, 1, 1]])

    def test_all_of_one_thing_and_two_arrows(self):
        seen = {}
        for sample in one_thing_samples():
            fault = first_fault(sample)
            seen[tuple(fault)] = True
            self.assertEqual(after(sample.told(0), check(0)), [fault])
        self.assertIn((0,), seen)
        for three in ((1, 1, 1), (1, 1, 2), (1, 2, 1), (1, 2, 2), (2, 1, 1), (2, 1, 2)):
            self.assertIn((3,) + three, seen)

    def test_one_wrong_or_missing_in_a_larger_one(self):
        for sample in (ONE_AND_TWO, HALF_UNDONE, DIAMOND, MADE_ALIKE):
            for met in sample.made:
                for wrong in [None] + list(range(len(sample.ways))):
                    made = {key: value for key, value in sample.made.items() if key != met}
                    if wrong is not None:
                        made[met] = wrong
                    changed = Sample(sample.things, sample.ways[sample.things:], made)
                    self.assertEqual(after(changed.told(1), check(1)), [first_fault(changed)])

    def test_changes_nothing(self):
        for told in NO_CATEGORIES:
            self.assertEqual(*after(told, check(0), check(0)))


class NoCategory(unittest.TestCase):
    def test_is_refused(self):
        for told in NO_CATEGORIES:
            self.assertEqual(after(told, kinds(0, 0), hom(0, 0, 0), last(0), product(0, 0, 0)), [[-6]] * 4)

    def test_is_told_ahead_of_no_such_arrow_or_thing(self):
        for told in NO_CATEGORIES:
            for none in (5, MOST):
                self.assertEqual(after(told, kinds(0, none), hom(0, none, 0), hom(0, 0, none), product(0, none, 0),
                                       product(0, 0, none)), [[-6]] * 5)

    def test_is_asked_of_the_one_that_is_named(self):
        for told in NO_CATEGORIES:
            self.assertEqual(after(told, kinds(1, 0), hom(1, 0, 0), last(1), product(1, 0, 0)),
                             [[63], [1, 0], [1, 0], [1, 0, 0]])

    def test_is_refused_no_more_once_it_is_one(self):
        self.assertEqual(run(arrow(0, 0, 0), last(0), make(0, 1, 1, 1), last(0), hom(0, 0, 0)),
                         [[1], [-6], [1], [0], [2, 0, 1]])


class Kinds(unittest.TestCase):
    def asked(self, sample):
        calls = [kinds(0, f) for f in range(len(sample.ways))]
        return [answer[0] for answer in after(sample.told(0), *calls)]

    def test_own_arrows_are_of_all_kinds(self):
        for sample in (DISCRETE, ONE_ARROW, TWO_THE_SAME, DIAMOND, TWO_TURNS):
            self.assertEqual(self.asked(sample)[:sample.things], [63] * sample.things)

    def test_each_kind_there_and_not_there(self):
        self.assertEqual(self.asked(ONE_ARROW)[2], 1 + 2)
        self.assertEqual(self.asked(TWO_THE_SAME)[2:], [1 + 2 + 4 + 8 + 16] * 2)
        self.assertEqual(self.asked(TWO_TURNS)[1], 1 + 2 + 4 + 8 + 16)
        self.assertEqual(self.asked(MADE_ALIKE)[3:], [1, 1 + 2, 1 + 2, 1 + 2])
        self.assertEqual(self.asked(HALF_UNDONE)[2:], [1 + 4, 2 + 8, 32])
        self.assertEqual(self.asked(FORGETS)[1:], [32, 32])
        self.assertEqual(self.asked(ONE_AND_TWO)[2:], [1 + 4, 1 + 4, 1 + 2 + 4 + 8 + 16, 32, 32, 2 + 8])

    def test_kept_apart_on_one_side_alone(self):
        told = MADE_ALIKE.told(0)
        self.assertEqual(after(told, kinds(0, 3), turn(0), kinds(0, 3)), [[1], [7], [2]])

    def test_no_kind_at_all(self):
        # 1 and 1 make 2, and all else makes 2.
        sample = Sample(1, [(0, 0), (0, 0)], {(1, 1): 2, (1, 2): 2, (2, 1): 2, (2, 2): 2})
        self.assertEqual(self.asked(sample), [63, 0, 32])

    def test_only_arrows_side_by_side_are_held_apart(self):
        # 3 and 4 end at 2 and begin at two things; the one behind takes them to two arrows.
        sample = of_order(4, [(0, 2), (1, 2), (2, 3), (0, 3), (1, 3)])
        self.assertEqual(self.asked(sample)[4:], [3] * 5)

    def test_by_the_words(self):
        samples = [sample for sample in one_thing_samples() if first_fault(sample) == [0]]
        self.assertGreater(len(samples), 5)
        for sample in samples + list(SAMPLES):
            self.assertEqual(self.asked(sample), [kinds_by_words(sample, f) for f in range(len(sample.ways))])

    def test_no_such_arrow(self):
        for none in (2, 9, MOST):
            self.assertEqual(after(TWO_TURNS.told(0), kinds(0, none)), [[-3]])
        self.assertEqual(run(kinds(1, 0), kinds(1, 1)), [[63], [-3]])


class Hom(unittest.TestCase):
    def test_how_many_and_which_rising(self):
        told = ONE_AND_TWO.told(0)
        self.assertEqual(after(told, hom(0, 0, 0), hom(0, 0, 1), hom(0, 1, 0), hom(0, 1, 1)),
                         [[1, 0], [2, 2, 3], [1, 7], [4, 1, 4, 5, 6]])

    def test_none(self):
        self.assertEqual(after(ONE_ARROW.told(1), hom(1, 1, 0), hom(1, 0, 1)), [[0], [1, 2]])

    def test_no_such_thing(self):
        for x, y in ((2, 0), (0, 2), (2, 2), (MOST, 1), (1, MOST)):
            self.assertEqual(after(ONE_ARROW.told(0), hom(0, x, y)), [[-1]])


class Last(unittest.TestCase):
    def asked(self, sample):
        return after(sample.told(0), last(0))[0]

    def test_there(self):
        self.assertEqual(run(last(0)), [[1, 0]])
        self.assertEqual(self.asked(ONE_ARROW), [1, 1])
        self.assertEqual(self.asked(DIAMOND), [1, 3])
        self.assertEqual(self.asked(ONE_AND_TWO), [1, 0])

    def test_not_there(self):
        for sample in (DISCRETE, TWO_TURNS, FORGETS, MADE_ALIKE):
            self.assertEqual(self.asked(sample), [0])
        self.assertEqual(after(ONE_AND_TWO.told(0), turn(0), last(0)), [[8], [0]])

    def test_more_than_one_arrow_from_itself(self):
        # One arrow leads from 0 to 1, but two from 1 to itself.
        self.assertEqual(self.asked(Sample(2, [(0, 1), (1, 1)], {(2, 3): 2, (3, 3): 3})), [0])

    def test_the_first_of_several(self):
        self.assertEqual(self.asked(TWO_THE_SAME), [1, 0])
        self.assertEqual(self.asked(of_order(3, [(0, 1), (0, 2), (1, 2), (2, 1)])), [1, 1])

    def test_turned(self):
        self.assertEqual(after(DIAMOND.told(1), turn(1), last(1)), [[9], [1, 0]])


class Product(unittest.TestCase):
    def asked(self, sample, x, y):
        return after(sample.told(0), product(0, x, y))[0]

    def test_in_an_order(self):
        self.assertEqual(self.asked(DIAMOND, 1, 2), [1, 4, 5])
        self.assertEqual(self.asked(DIAMOND, 2, 1), [1, 5, 4])
        self.assertEqual(self.asked(DIAMOND, 1, 3), [1, 1, 7])
        self.assertEqual(self.asked(DIAMOND, 0, 3), [1, 0, 6])
        self.assertEqual(self.asked(DIAMOND, 3, 3), [1, 3, 3])
        self.assertEqual(after(DIAMOND.told(0), turn(0), product(0, 1, 2)), [[9], [1, 7, 8]])

    def test_in_sets(self):
        self.assertEqual(self.asked(ONE_AND_TWO, 0, 0), [1, 0, 0])
        self.assertEqual(self.asked(ONE_AND_TWO, 0, 1), [1, 7, 1])
        self.assertEqual(self.asked(ONE_AND_TWO, 1, 0), [1, 1, 7])

    def test_not_there(self):
        self.assertEqual(self.asked(DISCRETE, 0, 1), [0])
        self.assertEqual(self.asked(ONE_AND_TWO, 1, 1), [0])
        self.assertEqual(self.asked(TWO_TURNS, 0, 0), [0])
        # 0 and 1 both lie below 2 and 3: neither of them is the product.
        self.assertEqual(self.asked(of_order(4, [(0, 2), (0, 3), (1, 2), (1, 3)]), 2, 3), [0])

    def test_more_than_one_way_is_none(self):
        # By 2 and 2 all pairs of arrows to 1 come, but 2 and 2 themselves by 0 and by 4.
        sample = Sample(2, [(0, 1), (1, 0), (0, 0)], {(3, 2): 1, (2, 3): 4, (4, 4): 4, (3, 4): 3, (4, 2): 2})
        self.assertEqual(self.asked(sample, 1, 1), [1, 1, 1])

    def test_the_first_of_several_things(self):
        self.assertEqual(self.asked(TWO_THE_SAME, 1, 1), [1, 2, 2])
        self.assertEqual(self.asked(TWO_THE_SAME, 0, 1), [1, 0, 2])
        self.assertEqual(self.asked(TWO_THE_SAME, 1, 0), [1, 2, 0])

    def test_the_first_of_several_arrows(self):
        self.assertEqual(after(ONE_AND_TWO.told(0), turn(0), product(0, 0, 0)), [[8], [1, 2, 3]])

    def test_a_thing_with_itself(self):
        self.assertEqual(self.asked(DISCRETE, 0, 0), [1, 0, 0])
        self.assertEqual(self.asked(DISCRETE, 1, 1), [1, 1, 1])

    def test_by_the_words(self):
        for sample in SAMPLES:
            for x, y in itertools.product(range(sample.things), repeat=2):
                self.assertEqual(self.asked(sample, x, y), product_by_words(sample, x, y))

    def test_no_such_thing(self):
        for x, y in ((2, 0), (0, 2), (2, 2), (MOST, 1), (1, MOST)):
            self.assertEqual(after(ONE_ARROW.told(0), product(0, x, y)), [[-1]])
