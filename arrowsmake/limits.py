"""What all arrows of a category come by: the last thing, products.

Each answers 1 and the first one, or 0 alone.
"""


def is_last(category, y):
    return all([len(category.hom(x, y)) == 1 for x in range(category.thing_count)])


def last_thing(category):
    for y in range(category.thing_count):
        if is_last(category, y):
            return [1, y]
    return [0]


def comes_by_one(category, first, second, u, v):
    """Whether just one arrow makes u with first behind it and v with second."""
    p = category.begins[first]
    ways = 0
    for m in category.hom(category.begins[u], p):
        if category.made(m, first) == u and category.made(m, second) == v:
            ways += 1
    return ways == 1


def is_product(category, first, second):
    """Whether two arrows that begin at one thing are a product of where they end."""
    x = category.ends[first]
    y = category.ends[second]
    for w in range(category.thing_count):
        for u in category.hom(w, x):
            for v in category.hom(w, y):
                if not comes_by_one(category, first, second, u, v):
                    return False
    return True


def first_product(category, x, y):
    for p in range(category.thing_count):
        for first in category.hom(p, x):
            for second in category.hom(p, y):
                if is_product(category, first, second):
                    return [1, first, second]
    return [0]
