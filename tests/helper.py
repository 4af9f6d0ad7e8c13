"""Calls by their names, a run that takes the answers apart, and categories to ask about."""

import itertools

from arrowsmake.categories import answers

MOST = 4294967295


def start(i, n):
    return [0, i, n]


def arrow(i, x, y):
    return [1, i, x, y]


def make(i, f, g, h):
    return [2, i, f, g, h]


def check(i):
    return [3, i]


def kinds(i, f):
    return [4, i, f]


def hom(i, x, y):
    return [5, i, x, y]


def turn(i):
    return [6, i]


def last(i):
    return [7, i]


def product(i, x, y):
    return [8, i, x, y]


def pullback(i, f, g):
    return [9, i, f, g]


def equalizer(i, f, g):
    return [10, i, f, g]


def maps(i):
    return [11, i]


def nth(i, k):
    return [12, i, k]


def changes(i, k, l):
    return [13, i, k, l]


def alike(i, k, l):
    return [14, i, k, l]


def partner(i, k):
    return [15, i, k]


def swap():
    return [16]


def flat(calls):
    return [number for call in calls for number in call]


def taken_apart(given):
    """One list an answer; fails if a count doesn't fit or a number is no plain int."""
    if type(given) is not list or any(type(number) is not int for number in given):
        raise AssertionError(f"not a list of whole numbers: {given!r}")
    parts = []
    at = 0
    while at < len(given):
        parts.append(given[at + 1:at + 1 + given[at]])
        at += 1 + given[at]
    if at != len(given) or [] in parts:
        raise AssertionError(f"the counts don't fit: {given!r}")
    return parts


def run(*calls):
    """The answers of these calls, one list each."""
    parts = taken_apart(answers(flat(calls)))
    if len(parts) != len(calls):
        raise AssertionError(f"{len(calls)} calls, {len(parts)} answers")
    return parts


def after(told, *calls):
    """The answers of these calls alone, behind the calls told."""
    return run(*told, *calls)[len(told):]


def asked(told, calls):
    """Like after, for calls that change nothing: in as many lists of 40 calls as that takes."""
    room = 40 - len(told)
    parts = []
    for at in range(0, len(calls), room):
        parts += after(told, *calls[at:at + room])
    return parts


class Sample:
    """Things and arrows, with what they make as a dict; own arrows are left out of it."""

    def __init__(self, things, arrows, made):
        self.things = things
        self.ways = [(x, x) for x in range(things)] + arrows
        self.made = made

    def told(self, i):
        calls = [start(i, self.things)]
        calls += [arrow(i, x, y) for x, y in self.ways[self.things:]]
        calls += [make(i, f, g, h) for (f, g), h in self.made.items()]
        return calls

    def makes(self, f, g):
        return g if f < self.things else f if g < self.things else self.made[f, g]

    def leading(self, x, y):
        return [f for f, way in enumerate(self.ways) if way == (x, y)]

    def ending(self, y):
        return [f for f, way in enumerate(self.ways) if way[1] == y]


def of_functions(sizes, functions):
    """The sample of these functions (x, y, values) between sets; own ones are left out."""
    own = [(x, x, tuple(range(size))) for x, size in enumerate(sizes)]
    everything = own + functions
    made = {}
    for f, (x, y, first) in enumerate(everything):
        for g, (z, w, second) in enumerate(everything):
            if y == z and f >= len(sizes) and g >= len(sizes):
                made[f, g] = everything.index((x, w, tuple(second[value] for value in first)))
    return Sample(len(sizes), [(x, y) for x, y, values in functions], made)


def of_order(things, pairs):
    """The sample with just one arrow for each pair (and each thing's own)."""
    ways = [(x, x) for x in range(things)] + pairs
    made = {}
    for f in range(things, len(ways)):
        for g in range(things, len(ways)):
            if ways[f][1] == ways[g][0]:
                made[f, g] = ways.index((ways[f][0], ways[g][1]))
    return Sample(things, pairs, made)


def spread(one, arrows):
    """Two things in the place of one's; own arrows are left out of those given."""
    everything = [(0, 0, 0), (1, 1, 0)] + arrows
    made = {}
    for f, (x, y, a) in enumerate(everything):
        for g, (z, w, b) in enumerate(everything):
            if y == z and f >= 2 and g >= 2:
                made[f, g] = everything.index((x, w, one.makes(a, b)))
    return Sample(2, [(x, y) for x, y, a in arrows], made)


DISCRETE = Sample(2, [], {})
ONE_ARROW = of_order(2, [(0, 1)])
TWO_THE_SAME = of_order(2, [(0, 1), (1, 0)])
# 0 lies below 1 and 2, and these below 3.
DIAMOND = of_order(4, [(0, 1), (0, 2), (0, 3), (1, 3), (2, 3)])
# Arrows 2 and 3 pick one of two; 4 swaps the two, 5 and 6 take both to one; 7 leads back.
ONE_AND_TWO = of_functions([1, 2], [
    (0, 1, (0,)), (0, 1, (1,)), (1, 1, (1, 0)), (1, 1, (0, 0)), (1, 1, (1, 1)), (1, 0, (0, 0))])
# Arrow 3 and, behind it, 4 or 5 make 6.
MADE_ALIKE = Sample(3, [(0, 1), (1, 2), (1, 2), (0, 2)], {(3, 4): 6, (3, 5): 6})
# Arrow 2 is undone by 3; the other way round they make 4.
HALF_UNDONE = Sample(2, [(0, 1), (1, 0), (1, 1)], {
    (2, 3): 0, (3, 2): 4, (4, 4): 4, (2, 4): 2, (4, 3): 3})
TWO_TURNS = Sample(1, [(0, 0)], {(1, 1): 0})
# Of arrows 1 and 2, the one behind is what they make.
FORGETS = Sample(1, [(0, 0), (0, 0)], {(1, 1): 1, (1, 2): 2, (2, 1): 1, (2, 2): 2})
# Number x behind number y is x + y, over 3.
THREE_TURNS = Sample(1, [(0, 0), (0, 0)], {(1, 1): 2, (1, 2): 0, (2, 1): 0, (2, 2): 1})
# Each is there twice: arrow (x, y, a) leads from x to y and makes with others what a does.
TWO_TURNING = spread(TWO_TURNS, [(0, 0, 1), (1, 1, 1), (0, 1, 0), (0, 1, 1), (1, 0, 0), (1, 0, 1)])
# Arrows 5 and 7 undo each other; 4 and 6, side by side with these, can't be undone.
FORGETTING = spread(Sample(1, [(0, 0)], {(1, 1): 1}), [
    (0, 0, 1), (1, 1, 1), (0, 1, 1), (0, 1, 0), (1, 0, 1), (1, 0, 0)])
ONE_THING = Sample(1, [], {})
SAMPLES = (DISCRETE, ONE_ARROW, TWO_THE_SAME, DIAMOND, ONE_AND_TWO, MADE_ALIKE, HALF_UNDONE,
           TWO_TURNS, FORGETS, THREE_TURNS, TWO_TURNING, FORGETTING, ONE_THING)


def beside(count):
    """Two things and that many arrows from 0 to 1: no two of them meet."""
    return Sample(2, [(0, 1)] * count, {})


def both(a, b):
    """The calls that tell a as number 0 and b as number 1."""
    return a.told(0) + b.told(1)


def some(numbers, most):
    """All, if they aren't many; else some of them, the first and the last one too."""
    step = max(1, len(numbers) // most)
    return numbers[::step] + numbers[-1:]


def no_categories(i):
    """Calls behind which number i has fault 1, 2 and 3, one each."""
    return (
        [arrow(i, 0, 0)],
        [start(i, 2), arrow(i, 0, 0), make(i, 2, 2, 1)],
        [arrow(i, 0, 0), arrow(i, 0, 0), make(i, 1, 1, 2), make(i, 1, 2, 1), make(i, 2, 1, 2), make(i, 2, 2, 2)],
    )


def pairs_of(samples, calls_left=5):
    """Each two of the samples that can be told in one list with some calls left."""
    pairs = itertools.product(samples, repeat=2)
    return [(a, b) for a, b in pairs if len(a.told(0)) + len(b.told(1)) <= 40 - calls_left]


def mappings_by_words(a, b):
    """All mappings from a to b, in order."""
    found = []
    for things in itertools.product(range(b.things), repeat=a.things):
        lists = [b.leading(things[x], things[y]) for x, y in a.ways[a.things:]]
        for others in itertools.product(*lists):
            goes = list(things + others)
            if all(b.makes(goes[f], goes[g]) == goes[h] for (f, g), h in a.made.items()):
                found.append(goes)
    return found


def changes_by_words(a, b, first, second):
    """All changes from first to second, mappings from a to b, in order."""
    lists = [b.leading(first[x], second[x]) for x in range(a.things)]
    return [list(change) for change in itertools.product(*lists)
            if all(b.makes(first[f], change[y]) == b.makes(change[x], second[f]) for f, (x, y) in enumerate(a.ways))]


def undone(b, f):
    x, y = b.ways[f]
    return any(b.makes(f, g) == x and b.makes(g, f) == y for g in b.leading(y, x))


def partner_by_words(a, b, mapping):
    itself = list(range(len(a.ways)))
    for back in mappings_by_words(b, a):
        for change in changes_by_words(a, a, itself, [back[f] for f in mapping]):
            if all(sorted(a.makes(change[x], back[g]) for g in b.leading(mapping[x], y)) == a.leading(x, back[y])
                   for x in range(a.things) for y in range(b.things)):
                return [1] + back + change
    return [0]
