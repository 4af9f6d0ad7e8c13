"""maps, nth, changes and alike: what they answer and refuse (points 3 and 4)."""

import unittest

from tests.helper import (
    DIAMOND, DISCRETE, FORGETS, FORGETTING, HALF_UNDONE, MADE_ALIKE, MOST, ONE_ARROW, ONE_THING, SAMPLES, THREE_TURNS,
    TWO_THE_SAME, TWO_TURNS, Sample, after, alike, arrow, asked, beside, both, changes, changes_by_words, make,
    mappings_by_words, maps, no_categories, nth, pairs_of, partner, run, some, start, turn, undone)


def kept(count):
    """Arrow 2 makes each of that many others, all side by side, with it."""
    return Sample(2, [(0, 0)] + [(0, 1)] * count, {(2, f): f for f in range(2, 3 + count)})


def kept_last(count):
    """The same, but the arrow that ties the others together comes last."""
    loop = 2 + count
    return Sample(2, [(0, 1)] * count + [(0, 0)], {(loop, f): f for f in range(2, 3 + count)})


def exchanged(count):
    """The last arrow turns each two of the others into one another."""
    loop = 2 + 2 * count
    made = {(loop, f): f ^ 1 for f in range(2, loop)}
    return Sample(2, [(0, 1)] * (2 * count) + [(0, 0)], {(loop, loop): 0, **made})


class Maps(unittest.TestCase):
    def all_of(self, a, b):
        """The mappings from a to b as nth tells them, up to the number that maps tells."""
        told = both(a, b)
        count = after(told, maps(0))[0][0]
        self.assertEqual(after(told, nth(0, count)), [[-3]])
        return asked(told, [nth(0, k) for k in range(count)])

    def test_at_the_beginning(self):
        for i in (0, 1):
            self.assertEqual(run(maps(i), nth(i, 0), nth(i, 1)), [[1], [0], [-3]])

    def test_between_two_unlike_ones_both_ways(self):
        self.assertEqual(self.all_of(DISCRETE, ONE_ARROW), [[0, 0], [0, 1], [1, 0], [1, 1]])
        self.assertEqual(self.all_of(ONE_ARROW, DISCRETE), [[0, 0, 0], [1, 1, 1]])
        self.assertEqual(self.all_of(ONE_ARROW, beside(2)), [[0, 0, 0], [0, 1, 2], [0, 1, 3], [1, 1, 1]])
        self.assertEqual(self.all_of(beside(2), ONE_ARROW), [[0, 0, 0, 0], [0, 1, 2, 2], [1, 1, 1, 1]])
        self.assertEqual(self.all_of(ONE_ARROW, TWO_TURNS), [[0, 0, 0], [0, 0, 1]])
        self.assertEqual(self.all_of(TWO_TURNS, ONE_ARROW), [[0, 0], [1, 1]])

    def test_between_one_and_the_same(self):
        self.assertEqual(self.all_of(ONE_ARROW, ONE_ARROW), [[0, 0, 0], [0, 1, 2], [1, 1, 1]])
        self.assertEqual(self.all_of(TWO_TURNS, TWO_TURNS), [[0, 0], [0, 1]])
        self.assertEqual(self.all_of(THREE_TURNS, THREE_TURNS), [[0, 0, 0], [0, 1, 2], [0, 2, 1]])
        self.assertEqual(self.all_of(TWO_THE_SAME, TWO_THE_SAME), [[0, 0, 0, 0], [0, 1, 2, 3], [1, 0, 3, 2], [1, 1, 1, 1]])

    def test_just_one(self):
        self.assertEqual(self.all_of(TWO_TURNS, THREE_TURNS), [[0, 0]])
        self.assertEqual(self.all_of(THREE_TURNS, TWO_TURNS), [[0, 0, 0]])
        for sample in SAMPLES:
            self.assertEqual(self.all_of(sample, ONE_THING), [[0] * len(sample.ways)])

    def test_one_at_least_for_each_thing(self):
        # All arrows may go to one thing's own: so there's never none at all.
        for a, b in pairs_of(SAMPLES):
            found = self.all_of(a, b)
            for y in range(b.things):
                self.assertIn([y] * len(a.ways), found)

    def test_own_arrows_go_to_own_ones(self):
        # The other arrow makes itself with itself, too, but isn't an own one.
        idempotent = Sample(1, [(0, 0)], {(1, 1): 1})
        self.assertEqual(self.all_of(ONE_THING, idempotent), [[0]])
        self.assertEqual(self.all_of(idempotent, idempotent), [[0, 0], [0, 1]])

    def test_what_two_make_goes_along(self):
        self.assertEqual(self.all_of(MADE_ALIKE, ONE_ARROW), mappings_by_words(MADE_ALIKE, ONE_ARROW))
        self.assertIn([0, 1, 1, 2, 1, 1, 2], self.all_of(MADE_ALIKE, ONE_ARROW))
        self.assertIn([0, 0, 1, 0, 2, 2, 2], self.all_of(MADE_ALIKE, beside(2)))
        self.assertNotIn([0, 0, 1, 0, 2, 3, 2], self.all_of(MADE_ALIKE, beside(2)))
        self.assertEqual(self.all_of(Sample(1, [(0, 0)], {(1, 1): 1}), TWO_TURNS), [[0, 0]])

    def test_by_the_words(self):
        for a, b in pairs_of(SAMPLES):
            self.assertEqual(self.all_of(a, b), mappings_by_words(a, b))

    def test_number_one_leads_to_number_zero(self):
        told = both(ONE_ARROW, beside(2))
        self.assertEqual(after(told, maps(0), maps(1), nth(0, 2), nth(1, 1)), [[4], [3], [0, 1, 3], [0, 1, 2, 2]])

    def test_very_many(self):
        told = both(beside(7), beside(7))
        many = 7 ** 7 + 2
        self.assertEqual(after(told, maps(0), maps(1)), [[many], [many]])
        self.assertEqual(after(told, nth(0, 0), nth(0, 1), nth(0, 2), nth(0, 8), nth(0, many - 2), nth(0, many - 1)), [
            [0] * 9, [0, 1] + [2] * 7, [0, 1] + [2] * 6 + [3], [0, 1] + [2] * 5 + [3, 2], [0, 1] + [8] * 7, [1] * 9])
        k = 1 + 6 * 7 ** 6 + 5 * 7 ** 5 + 4 * 7 ** 4 + 3 * 7 ** 3 + 2 * 7 ** 2 + 7
        self.assertEqual(after(told, nth(1, k), nth(1, many), nth(1, MOST)), [[0, 1, 8, 7, 6, 5, 4, 3, 2], [-3], [-3]])

    def test_tied_by_the_words(self):
        samples = (kept(3), kept_last(3), exchanged(1), exchanged(2), beside(3))
        for a, b in pairs_of(samples):
            told = both(a, b)
            found = mappings_by_words(a, b)
            numbers = some(list(range(len(found))), 40)
            self.assertEqual(after(told, maps(0), nth(0, len(found))), [[len(found)], [-3]])
            self.assertEqual(asked(told, [nth(0, k) for k in numbers]), [found[k] for k in numbers])

    def test_very_many_that_are_tied(self):
        told = both(kept(6), beside(7))
        self.assertEqual(after(told, maps(0), nth(0, 7 ** 6), nth(0, 7 ** 6 + 1), nth(0, 7 ** 6 + 2)),
                         [[7 ** 6 + 2], [0, 1, 0] + [8] * 6, [1] * 9, [-3]])
        # With both things at 0: the last arrow at 0 and others at 0 or 8, or all but things at 8.
        told = both(kept_last(6), kept_last(6))
        ahead = 2 ** 6 + 1
        many = ahead + 2 * 6 ** 6 + 1
        self.assertEqual(after(told, maps(0), nth(0, ahead - 1), nth(0, ahead), nth(0, ahead + 1), nth(0, ahead + 2),
                               nth(0, many - 2), nth(0, many - 1), nth(0, many)),
                         [[many], [0, 0] + [8] * 7, [0, 1] + [2] * 6 + [0], [0, 1] + [2] * 6 + [8],
                          [0, 1] + [2] * 5 + [3, 0], [0, 1] + [7] * 6 + [8], [1] * 9, [-3]])
        self.assertEqual(after(both(exchanged(3), beside(7)), maps(0), nth(0, 2), nth(0, 343)),
                         [[7 ** 3 + 2], [0, 1, 2, 2, 2, 2, 3, 3, 0], [0, 1] + [8] * 6 + [0]])

    def test_changed_in_between(self):
        self.assertEqual(run(maps(0), start(1, 2), maps(0), arrow(1, 0, 1), maps(0), start(0, 2), maps(0), arrow(0, 1, 0),
                             maps(0), nth(0, 1), turn(0), nth(0, 1), arrow(0, 0, 0), maps(0), make(0, 3, 3, 0), maps(0)),
                         [[1], [2], [2], [2], [2], [2], [4], [2], [3], [1, 0, 2], [3], [0, 1, 2], [3], [-6], [0], [-6]])


class Changes(unittest.TestCase):
    def table(self, a, b):
        """What is answered of changes for each two mappings from a to b."""
        told = both(a, b)
        count = after(told, maps(0))[0][0]
        return [asked(told, [changes(0, k, l) for l in range(count)]) for k in range(count)]

    def test_one_thing(self):
        self.assertEqual(run(changes(0, 0, 0), changes(1, 0, 0)), [[1, 0]] * 2)
        self.assertEqual(self.table(ONE_THING, ONE_ARROW), [[[1, 0], [1, 2]], [[0], [1, 1]]])
        self.assertEqual(self.table(ONE_THING, FORGETTING), [[[2, 0], [2, 4]], [[2, 6], [2, 1]]])

    def test_none_is_0_alone(self):
        self.assertEqual(self.table(ONE_THING, DISCRETE), [[[1, 0], [0]], [[0], [1, 1]]])
        self.assertEqual(self.table(TWO_TURNS, TWO_TURNS), [[[2, 0], [0]], [[0], [2, 0]]])

    def test_several_things(self):
        self.assertEqual(self.table(DISCRETE, beside(2)), [
            [[1, 0, 0], [2, 0, 2], [2, 2, 0], [4, 2, 2]],
            [[0], [1, 0, 1], [0], [2, 2, 1]],
            [[0], [0], [1, 1, 0], [2, 1, 2]],
            [[0], [0], [0], [1, 1, 1]]])

    def test_the_arrows_must_fit(self):
        self.assertEqual(self.table(ONE_ARROW, beside(2)), [
            [[1, 0, 0], [1, 0, 2], [1, 0, 3], [2, 2, 2]],
            [[0], [1, 0, 1], [0], [1, 2, 1]],
            [[0], [0], [1, 0, 1], [1, 3, 1]],
            [[0], [0], [0], [1, 1, 1]]])

    def test_which_stands_first_matters(self):
        # What 1 and 2 make is the one behind, so an arrow may fit on one side alone.
        told = both(ONE_ARROW, FORGETS)
        calls = [changes(0, 0, 1), changes(0, 1, 0), changes(0, 1, 2), changes(0, 2, 2)]
        self.assertEqual(after(told, *calls), [[3, 0, 1], [3, 1, 0], [3, 0, 2], [6, 0, 0]])
        self.assertEqual(after(told + [turn(1)], *calls), [[3, 0, 1], [3, 1, 0], [3, 1, 0], [6, 0, 0]])

    def test_many(self):
        told = [start(0, 4)] + beside(7).told(1)
        self.assertEqual(after(told, maps(0), changes(0, 0, 15), changes(0, 15, 0), changes(0, 0, 1)),
                         [[16], [7 ** 4, 2, 2, 2, 2], [0], [7, 0, 0, 0, 2]])
        told = both(beside(7), beside(7))
        last = 7 ** 7 + 1
        self.assertEqual(after(told, changes(0, 0, last), changes(0, 5, 5), changes(0, 5, 6), changes(0, last - 1, last)),
                         [[7, 2, 2], [1, 0, 1], [0], [1, 8, 1]])

    def test_by_the_words(self):
        for a, b in pairs_of(SAMPLES):
            found = mappings_by_words(a, b)
            numbers = some(list(range(len(found))), 5)
            expected = [changes_by_words(a, b, found[k], found[l]) for k in numbers for l in numbers]
            self.assertEqual(asked(both(a, b), [changes(0, k, l) for k in numbers for l in numbers]),
                             [[len(changed)] + (changed[0] if changed else []) for changed in expected])


class Alike(unittest.TestCase):
    def table(self, a, b):
        told = both(a, b)
        count = after(told, maps(0))[0][0]
        return [[answer[0] for answer in asked(told, [alike(0, k, l) for l in range(count)])] for k in range(count)]

    def test_each_is_like_itself(self):
        for a, b in pairs_of(SAMPLES):
            count = after(both(a, b), maps(0))[0][0]
            for k in some(list(range(count)), 3):
                self.assertEqual(after(both(a, b), alike(0, k, k)), [[1]])

    def test_alike(self):
        self.assertEqual(self.table(ONE_THING, TWO_THE_SAME), [[1, 1], [1, 1]])
        self.assertEqual(self.table(TWO_THE_SAME, TWO_THE_SAME), [[1] * 4] * 4)

    def test_not_alike_without_changes(self):
        self.assertEqual(self.table(ONE_THING, DISCRETE), [[1, 0], [0, 1]])
        self.assertEqual(self.table(THREE_TURNS, THREE_TURNS), [[1, 0, 0], [0, 1, 0], [0, 0, 1]])

    def test_changes_of_other_kinds_are_not_enough(self):
        self.assertEqual(self.table(ONE_THING, ONE_ARROW), [[1, 0], [0, 1]])
        # There are changes both ways, but no arrow of kind 16.
        self.assertEqual(after(both(ONE_THING, HALF_UNDONE), changes(0, 0, 1), changes(0, 1, 0), alike(0, 0, 1),
                               alike(0, 1, 0)), [[1, 2], [1, 3], [0], [0]])

    def test_one_arrow_of_another_kind_spoils_it(self):
        # From [0, 0] to [0, 1] the first thing's arrow is an own one, the second's leads one way alone.
        self.assertEqual(after(both(DISCRETE, ONE_ARROW), nth(0, 0), nth(0, 1), changes(0, 0, 1), alike(0, 0, 1)),
                         [[0, 0], [0, 1], [1, 0, 2], [0]])

    def test_not_only_the_first_change_is_asked(self):
        self.assertEqual(after(both(ONE_THING, FORGETTING), changes(0, 0, 1), alike(0, 0, 1), alike(0, 1, 0)),
                         [[2, 4], [1], [1]])

    def test_by_the_words(self):
        for a, b in pairs_of(SAMPLES):
            found = mappings_by_words(a, b)
            numbers = some(list(range(len(found))), 5)
            expected = [changes_by_words(a, b, found[k], found[l]) for k in numbers for l in numbers]
            self.assertEqual(asked(both(a, b), [alike(0, k, l) for k in numbers for l in numbers]),
                             [[int(any(all(undone(b, f) for f in change) for change in changed))] for changed in expected])


class Refusals(unittest.TestCase):
    def calls(self, i, k, l):
        return [nth(i, k), nth(i, l), changes(i, k, l), alike(i, k, l), partner(i, k)]

    def test_above_one(self):
        for i in (2, 3, MOST):
            for told in ([],) + no_categories(0) + no_categories(1):
                self.assertEqual(after(told, maps(i), *self.calls(i, 0, 0), *self.calls(i, MOST, 5)), [[-2]] * 11)

    def test_one_of_the_two_is_no_category(self):
        for i in (0, 1):
            for told in no_categories(0) + no_categories(1):
                # It is told ahead of mappings that there aren't.
                self.assertEqual(after(told, maps(i), *self.calls(i, 0, 0), *self.calls(i, 9, MOST)), [[-6]] * 11)

    def test_both_are_no_categories(self):
        for first in no_categories(0):
            for second in no_categories(1):
                for i in (0, 1):
                    self.assertEqual(after(first + second, maps(i), *self.calls(i, 0, 0), *self.calls(i, MOST, 0)),
                                     [[-6]] * 11)

    def test_no_more_once_both_are(self):
        told = [arrow(0, 0, 0), arrow(1, 0, 0)]
        self.assertEqual(after(told, maps(0), make(0, 1, 1, 0), maps(0), maps(1), make(1, 1, 1, 0), maps(0), nth(1, 1)),
                         [[-6], [0], [-6], [-6], [0], [2], [0, 1]])

    def test_no_such_mapping(self):
        # Three mappings lead from 0 to 1, four from 1 to 0.
        told = both(beside(2), ONE_ARROW)
        for i, count in ((0, 3), (1, 4)):
            for none in (count, count + 1, 100, MOST):
                self.assertEqual(after(told, *self.calls(i, none, none)), [[-3]] * 5)
                for there in range(count):
                    self.assertEqual(after(told, changes(i, none, there), changes(i, there, none), alike(i, none, there),
                                           alike(i, there, none)), [[-3]] * 4)

    def test_the_last_mapping_is_there(self):
        told = both(beside(2), ONE_ARROW)
        self.assertEqual(after(told, nth(0, 2), nth(1, 3), changes(0, 2, 2), changes(1, 3, 3), alike(0, 2, 2),
                               alike(1, 3, 3)), [[1] * 4, [1] * 3, [1, 1, 1], [1, 1, 1], [1], [1]])

    def test_how_many_there_are_is_asked_of_the_one_that_is_named(self):
        told = both(DISCRETE, DIAMOND)
        self.assertEqual(after(told, maps(0), maps(1), nth(0, 15), nth(1, 15), nth(1, 2)),
                         [[16], [2], [3, 3], [-3], [-3]])
