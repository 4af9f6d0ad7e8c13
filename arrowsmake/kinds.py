"""The kinds of an arrow of a category."""


def keeps_apart(category, f):
    for x in range(category.thing_count):
        ahead = category.hom(x, category.begins[f])
        for u in ahead:
            for v in ahead:
                if u != v and category.made(u, f) == category.made(v, f):
                    return False
    return True


def arrows_back(category, f):
    return category.hom(category.ends[f], category.begins[f])


def undone_by(category, f, g):
    """Whether g, an arrow back, makes an own arrow behind f."""
    return category.made(f, g) == category.begins[f]


def can_be_undone(category, f):
    return any([undone_by(category, f, g) for g in arrows_back(category, f)])


def can_be_undone_both_ways(category, f):
    back = arrows_back(category, f)
    return any([undone_by(category, f, g) and undone_by(category, g, f) for g in back])


def makes_itself(category, f):
    return category.meet(f, f) and category.made(f, f) == f


def kinds_of(category, f):
    # Kinds 2 and 8 are kinds 1 and 4 with all arrows turned round.
    turned = category.turned()
    total = 0
    if keeps_apart(category, f):
        total += 1
    if keeps_apart(turned, f):
        total += 2
    if can_be_undone(category, f):
        total += 4
    if can_be_undone(turned, f):
        total += 8
    if can_be_undone_both_ways(category, f):
        total += 16
    if makes_itself(category, f):
        total += 32
    return total
