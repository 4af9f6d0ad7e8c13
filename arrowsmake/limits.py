"""What all arrows of a category come by: the last thing, products, pullbacks, equalizers.

Each answers 1 and the first one, or 0 alone.
"""


def is_last(category, y):
    return all([len(category.hom(x, y)) == 1 for x in range(category.thing_count)])


def last_thing(category):
    for y in range(category.thing_count):
        if is_last(category, y):
            return [1, y]
    return [0]


def comes_by_one(category, first, second, u, v):
    """Whether just one arrow makes u with first behind it and v with second."""
    p = category.begins[first]
    ways = 0
    for m in category.hom(category.begins[u], p):
        if category.made(m, first) == u and category.made(m, second) == v:
            ways += 1
    return ways == 1


def all_come_by(category, first, second, agree):
    """Whether each two arrows that agree come by first and second, which begin at one thing."""
    x = category.ends[first]
    y = category.ends[second]
    for w in range(category.thing_count):
        for u in category.hom(w, x):
            for v in category.hom(w, y):
                if agree(u, v) and not comes_by_one(category, first, second, u, v):
                    return False
    return True


def first_pair(category, x, y, agree):
    """The first two arrows to x and to y that agree and by which all that agree come."""
    for p in range(category.thing_count):
        for first in category.hom(p, x):
            for second in category.hom(p, y):
                if agree(first, second) and all_come_by(category, first, second, agree):
                    return [1, first, second]
    return [0]


def first_product(category, x, y):
    return first_pair(category, x, y, lambda u, v: True)


def first_pullback(category, f, g):
    """f and g end at one thing."""
    def make_the_same(u, v):
        return category.made(u, f) == category.made(v, g)

    return first_pair(category, category.begins[f], category.begins[g], make_the_same)


def first_equalizer(category, f, g):
    """f and g are side by side."""
    x = category.begins[f]
    ahead = [u for u in range(category.arrow_count()) if category.ends[u] == x]
    equal = [u for u in ahead if category.made(u, f) == category.made(u, g)]
    for arrow in equal:
        # It is among those that must come by it in just one way, which then is the own arrow.
        if all([comes_by_one(category, arrow, arrow, u, u) for u in equal]):
            return [1, arrow]
    return [0]
