"""partner: which mapping leads the other way so that arrows are the same, one by one (points 3 and 4)."""

import unittest

from tests.helper import (
    DIAMOND, DISCRETE, FORGETTING, HALF_UNDONE, MOST, ONE_AND_TWO, ONE_ARROW, ONE_THING, SAMPLES, THREE_TURNS,
    TWO_THE_SAME, TWO_TURNING, TWO_TURNS, Sample, after, asked, beside, both, make, mappings_by_words, maps, nth,
    of_order, pairs_of, partner, partner_by_words, run, some)

# Of 0, 1, 2, 3 two make the higher one; 4 makes itself with 0 and 1, else 3.
FIVE = Sample(1, [(0, 0)] * 4, {
    **{(f, g): max(f, g) for f in (1, 2, 3) for g in (1, 2, 3)},
    (1, 4): 4, (4, 1): 4, (2, 4): 3, (4, 2): 3, (3, 4): 3, (4, 3): 3, (4, 4): 3})
# Arrows 4, 5, 6 may go anywhere, 7 and 8 to those that make themselves: 5 * 5 * 5 * 4 * 4 mappings to FIVE.
FREE = Sample(4, [(0, 1), (0, 1), (0, 1), (2, 2), (3, 3)], {(7, 7): 7, (8, 8): 8})
# All that aren't told otherwise make 3 (from 0 to 0), 4 (from 0 to 1) or 7 (from 1 to 1).
ZEROS = Sample(2, [(0, 0), (0, 0), (0, 1), (0, 1), (0, 1), (1, 1)], {
    **{(f, g): 3 for f in (2, 3) for g in (2, 3)}, **{(f, g): 4 for f in (2, 3) for g in (4, 5, 6)},
    (4, 7): 4, (5, 7): 4, (6, 7): 4, (7, 7): 7})
# 2008 mappings lead from here to ZEROS.
FORKED = Sample(4, [(0, 1), (0, 1), (0, 1), (0, 1), (0, 2)], {})
# Arrow 4 turns 3 and 6, and 5 and 7, into one another; 8 makes 3 and 6 with these.
TIED = Sample(3, [(0, 2), (2, 2), (1, 2), (0, 2), (1, 2), (0, 0)], {
    (7, 4): 5, (6, 4): 3, (3, 4): 6, (8, 8): 8, (8, 3): 3, (8, 6): 6, (4, 4): 2, (5, 4): 7})


def renumbered(sample, order):
    """The same, where arrow order[f] has number f."""
    place = {old: f for f, old in enumerate(order)}
    made = {(place[f], place[g]): place[h] for (f, g), h in sample.made.items()}
    return Sample(sample.things, [sample.ways[old] for old in order[sample.things:]], made)


def number_of(a, b, mapping):
    return mappings_by_words(a, b).index(mapping)


class Partner(unittest.TestCase):
    def of(self, a, b, mapping):
        return after(both(a, b), partner(0, number_of(a, b, mapping)))[0]

    def test_at_the_beginning(self):
        self.assertEqual(run(partner(0, 0), partner(1, 0)), [[1, 0, 0]] * 2)

    def test_of_all_to_one_thing_is_the_last_thing(self):
        # 1; where the one thing goes; from each thing the arrow to there.
        self.assertEqual(self.of(ONE_ARROW, ONE_THING, [0] * 3), [1, 1, 2, 1])
        self.assertEqual(self.of(DIAMOND, ONE_THING, [0] * 9), [1, 3, 6, 7, 8, 3])
        self.assertEqual(self.of(ONE_AND_TWO, ONE_THING, [0] * 8), [1, 0, 0, 7])
        for sample in (DISCRETE, TWO_TURNS, HALF_UNDONE):
            expected = partner_by_words(sample, ONE_THING, [0] * len(sample.ways))
            self.assertEqual(self.of(sample, ONE_THING, [0] * len(sample.ways)), expected)
        self.assertEqual(self.of(DISCRETE, ONE_THING, [0] * 2), [0])
        self.assertEqual(self.of(TWO_TURNS, ONE_THING, [0] * 2), [0])

    def test_of_one_thing(self):
        # 1; where both things and the arrow go; the one thing's arrow.
        self.assertEqual(self.of(ONE_THING, ONE_ARROW, [0]), [1, 0, 0, 0, 0])
        self.assertEqual(self.of(ONE_THING, ONE_ARROW, [1]), [0])

    def test_between_orders(self):
        three = of_order(3, [(0, 1), (0, 2), (1, 2)])
        # y goes to the last one that goes below y.
        self.assertEqual(self.of(ONE_ARROW, three, [0, 1, 3]), [1, 0, 1, 1, 2, 2, 1, 0, 1])
        self.assertEqual(self.of(ONE_ARROW, three, [0, 2, 4]), [1, 0, 0, 1, 0, 2, 2, 0, 1])
        self.assertEqual(self.of(ONE_ARROW, three, [0, 0, 0]), [1, 1, 1, 1, 1, 1, 1, 2, 1])
        # Nothing goes to 0 or below.
        self.assertEqual(self.of(ONE_ARROW, three, [1, 2, 5]), [0])
        self.assertEqual(self.of(three, ONE_ARROW, [0, 1, 1, 2, 2, 1]), [1, 0, 2, 4, 0, 5, 2])

    def test_of_what_takes_each_to_itself(self):
        for sample in (ONE_ARROW, DIAMOND, TWO_TURNS, THREE_TURNS, DISCRETE, beside(3)):
            itself = list(range(len(sample.ways)))
            self.assertEqual(self.of(sample, sample, itself), [1] + itself + list(range(sample.things)))

    def test_leads_the_other_way_round(self):
        self.assertEqual(self.of(THREE_TURNS, THREE_TURNS, [0, 2, 1]), [1, 0, 2, 1, 0])
        self.assertEqual(self.of(DISCRETE, DISCRETE, [1, 0]), [1, 1, 0, 0, 1])

    def test_not_there(self):
        self.assertEqual(self.of(TWO_TURNS, TWO_TURNS, [0, 0]), [0])
        self.assertEqual(self.of(DISCRETE, DISCRETE, [0, 0]), [0])
        self.assertEqual(self.of(ONE_ARROW, DISCRETE, [0] * 3), [0])
        self.assertEqual(self.of(ONE_ARROW, TWO_TURNS, [0, 0, 1]), [0])

    def test_the_first_of_several_mappings_back(self):
        self.assertEqual(self.of(TWO_THE_SAME, ONE_THING, [0] * 4), [1, 0, 0, 3])
        self.assertEqual(self.of(TWO_THE_SAME, TWO_THE_SAME, [0, 1, 2, 3]), [1, 0, 0, 0, 0, 0, 3])
        self.assertEqual(self.of(TWO_THE_SAME, TWO_THE_SAME, [1, 1, 1, 1]), [1, 0, 0, 0, 0, 0, 3])

    def test_the_first_of_several_changes(self):
        # By both arrows of the change, 0 and 1, the arrows are the same.
        self.assertEqual(self.of(TWO_TURNS, TWO_TURNS, [0, 1]), [1, 0, 1, 0])
        # The second thing may have 6 or 7 along with 0, and these the other way round along with 2.
        self.assertEqual(self.of(TWO_TURNING, TWO_TURNS, [0, 0, 1, 1, 0, 1, 0, 1]), [1, 0, 2, 0, 6])
        self.assertEqual(self.of(TWO_TURNING, TWO_TURNS, [0, 0, 1, 1, 1, 0, 1, 0]), [1, 0, 2, 0, 7])

    def test_the_change_must_have_the_right_arrows(self):
        # 6 leads back, too, but can't be undone: the change has 7.
        once = Sample(1, [(0, 0)], {(1, 1): 1})
        self.assertEqual(self.of(FORGETTING, once, [0, 0, 1, 1, 1, 0, 1, 0]), [1, 0, 2, 0, 7])

    def test_the_first_is_by_number_however_arrows_are_tied(self):
        other = renumbered(TIED, [0, 1, 2, 7, 8, 4, 6, 3, 5])
        mappings = mappings_by_words(TIED, other)
        self.assertEqual(self.of(TIED, other, [0, 1, 2, 6, 5, 8, 7, 3, 4]), [1, 0, 1, 2, 5, 8, 4, 6, 3, 7, 0, 1, 4])
        self.assertEqual(asked(both(TIED, other), [partner(0, k) for k in range(len(mappings))]),
                         [partner_by_words(TIED, other, mapping) for mapping in mappings])

    def test_number_one_leads_to_number_zero(self):
        told = both(ONE_THING, ONE_ARROW)
        self.assertEqual(after(told, partner(0, 0), partner(0, 1), partner(1, 0)), [[1, 0, 0, 0, 0], [0], [1, 1, 2, 1]])

    def test_by_the_words(self):
        found = []
        for a, b in pairs_of(SAMPLES):
            mappings = mappings_by_words(a, b)
            numbers = some(list(range(len(mappings))), 30)
            expected = [partner_by_words(a, b, mappings[k]) for k in numbers]
            self.assertEqual(asked(both(a, b), [partner(0, k) for k in numbers]), expected)
            found += expected
        self.assertGreater(found.count([0]), 50)
        self.assertGreater(len(found) - found.count([0]), 50)


class ManyBack(unittest.TestCase):
    def test_two_thousand_are_not_too_many(self):
        told = both(FIVE, FREE)
        count = len(mappings_by_words(FIVE, FREE))
        self.assertEqual(after(told, maps(1), nth(1, 1999), nth(1, 2000), maps(0)),
                         [[2000], [0, 0, 0, 0, 4, 4, 4, 3, 3], [-3], [count]])
        self.assertEqual(after(told, partner(0, 0), partner(0, count - 1), partner(0, count)), [[0], [0], [-3]])

    def test_there_where_many_lead_back(self):
        # The one that is asked for is far from the first.
        sample = Sample(3, [(0, 1)] * 4 + [(2, 2)], {(7, 7): 7})
        k = number_of(sample, sample, list(range(8)))
        self.assertGreater(k, 200)
        self.assertEqual(after(both(sample, sample), maps(1), partner(0, k)),
                         [[1096], [1, 0, 1, 2, 3, 4, 5, 6, 7, 0, 1, 2]])

    def test_more_are_too_many(self):
        for i, told in ((0, both(ZEROS, FORKED)), (1, both(FORKED, ZEROS))):
            self.assertEqual(after(told, maps(1 - i), partner(i, 0)), [[2008], [-7]])
        self.assertEqual(after(both(beside(5), beside(5)), maps(0), partner(0, 0), partner(1, 3126)),
                         [[3127], [-7], [-7]])

    def test_how_many_lead_there_does_not_matter(self):
        # 5 ** 5 mappings lead from number 0 to number 1, but only two back.
        told = both(beside(5), FIVE)
        self.assertEqual(after(told, maps(0), maps(1), partner(0, 3124), partner(1, 0)), [[3125], [2], [0], [-7]])
        self.assertEqual(after(both(beside(7), ONE_ARROW), maps(1), maps(0), partner(0, 1), partner(1, 1)),
                         [[9], [3], [0], [0]])

    def test_no_such_mapping_is_told_ahead(self):
        told = both(ZEROS, FORKED)
        count = len(mappings_by_words(ZEROS, FORKED))
        self.assertEqual(after(told, maps(0), partner(0, count - 1), partner(0, count), partner(0, MOST)),
                         [[count], [-7], [-3], [-3]])

    def test_no_category_is_told_ahead(self):
        told = both(ZEROS, FORKED)
        self.assertEqual(after(told, make(0, 2, 2, 1), partner(0, 0), partner(0, MOST), make(0, 2, 2, 3), partner(0, 0)),
                         [[1], [-6], [-6], [3], [-7]])
