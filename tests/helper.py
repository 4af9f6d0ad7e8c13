"""Calls by their names, a run that takes the answers apart, and categories to ask about."""

from arrowsmake.categories import answers

MOST = 4294967295


def start(i, n):
    return [0, i, n]


def arrow(i, x, y):
    return [1, i, x, y]


def make(i, f, g, h):
    return [2, i, f, g, h]


def check(i):
    return [3, i]


def kinds(i, f):
    return [4, i, f]


def hom(i, x, y):
    return [5, i, x, y]


def turn(i):
    return [6, i]


def last(i):
    return [7, i]


def product(i, x, y):
    return [8, i, x, y]


def flat(calls):
    return [number for call in calls for number in call]


def taken_apart(given):
    """One list an answer; fails if a count doesn't fit or a number is no plain int."""
    if type(given) is not list or any(type(number) is not int for number in given):
        raise AssertionError(f"not a list of whole numbers: {given!r}")
    parts = []
    at = 0
    while at < len(given):
        parts.append(given[at + 1:at + 1 + given[at]])
        at += 1 + given[at]
    if at != len(given) or [] in parts:
        raise AssertionError(f"the counts don't fit: {given!r}")
    return parts


def run(*calls):
    """The answers of these calls, one list each."""
    parts = taken_apart(answers(flat(calls)))
    if len(parts) != len(calls):
        raise AssertionError(f"{len(calls)} calls, {len(parts)} answers")
    return parts


def after(told, *calls):
    """The answers of these calls alone, behind the calls told."""
    return run(*told, *calls)[len(told):]


class Sample:
    """Things and arrows, with what they make as a dict; own arrows are left out of it."""

    def __init__(self, things, arrows, made):
        self.things = things
        self.ways = [(x, x) for x in range(things)] + arrows
        self.made = made

    def told(self, i):
        calls = [start(i, self.things)]
        calls += [arrow(i, x, y) for x, y in self.ways[self.things:]]
        calls += [make(i, f, g, h) for (f, g), h in self.made.items()]
        return calls

    def makes(self, f, g):
        return g if f < self.things else f if g < self.things else self.made[f, g]


def of_functions(sizes, functions):
    """The sample of these functions (x, y, values) between sets; own ones are left out."""
    own = [(x, x, tuple(range(size))) for x, size in enumerate(sizes)]
    everything = own + functions
    made = {}
    for f, (x, y, first) in enumerate(everything):
        for g, (z, w, second) in enumerate(everything):
            if y == z and f >= len(sizes) and g >= len(sizes):
                made[f, g] = everything.index((x, w, tuple(second[value] for value in first)))
    return Sample(len(sizes), [(x, y) for x, y, values in functions], made)


def of_order(things, pairs):
    """The sample with just one arrow for each pair (and each thing's own)."""
    ways = [(x, x) for x in range(things)] + pairs
    made = {}
    for f in range(things, len(ways)):
        for g in range(things, len(ways)):
            if ways[f][1] == ways[g][0]:
                made[f, g] = ways.index((ways[f][0], ways[g][1]))
    return Sample(things, pairs, made)


DISCRETE = Sample(2, [], {})
ONE_ARROW = of_order(2, [(0, 1)])
TWO_THE_SAME = of_order(2, [(0, 1), (1, 0)])
# 0 lies below 1 and 2, and these below 3.
DIAMOND = of_order(4, [(0, 1), (0, 2), (0, 3), (1, 3), (2, 3)])
# Arrows 2 and 3 pick one of two; 4 swaps the two, 5 and 6 take both to one; 7 leads back.
ONE_AND_TWO = of_functions([1, 2], [
    (0, 1, (0,)), (0, 1, (1,)), (1, 1, (1, 0)), (1, 1, (0, 0)), (1, 1, (1, 1)), (1, 0, (0, 0))])
# Arrow 3 and, behind it, 4 or 5 make 6.
MADE_ALIKE = Sample(3, [(0, 1), (1, 2), (1, 2), (0, 2)], {(3, 4): 6, (3, 5): 6})
# Arrow 2 is undone by 3; the other way round they make 4.
HALF_UNDONE = Sample(2, [(0, 1), (1, 0), (1, 1)], {
    (2, 3): 0, (3, 2): 4, (4, 4): 4, (2, 4): 2, (4, 3): 3})
TWO_TURNS = Sample(1, [(0, 0)], {(1, 1): 0})
# Of arrows 1 and 2, the one behind is what they make.
FORGETS = Sample(1, [(0, 0), (0, 0)], {(1, 1): 1, (1, 2): 2, (2, 1): 1, (2, 2): 2})
SAMPLES = (DISCRETE, ONE_ARROW, TWO_THE_SAME, DIAMOND, ONE_AND_TWO, MADE_ALIKE, HALF_UNDONE,
           TWO_TURNS, FORGETS)
