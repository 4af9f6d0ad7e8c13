"""Mappings from one category, the source, to another, the target: how many there are, and which.

There may be hundreds of thousands, so they are not gone through one by one but kept as boxes.
A box has, for each arrow of the source, the arrows of the target to which it may go: each choice
out of these lists is a mapping, and each mapping is in just one box.
"""


def made_threes(source):
    """Two arrows that meet, neither a thing's own, and what they make."""
    threes = []
    for f in range(source.thing_count, source.arrow_count()):
        for g in range(source.thing_count, source.arrow_count()):
            if source.meet(f, g):
                threes.append((f, g, source.made(f, g)))
    return threes


def tied_arrows(threes, settled):
    """Arrows that aren't settled, where another of the same three isn't either; once for each such three."""
    tied = []
    for three in threes:
        loose = sorted(set([f for f in three if f not in settled]))
        if len(loose) > 1:
            tied.extend(loose)
    return tied


def most_tied(tied):
    return max(tied, key=lambda f: tied.count(f))


def settled_first(source, threes):
    """Arrows to settle one by one: where these go, all others may be chosen each for itself."""
    settled = list(range(source.thing_count))
    tied = tied_arrows(threes, settled)
    while len(tied) > 0:
        settled.append(most_tied(tied))
        tied = tied_arrows(threes, settled)
    return settled


def side_by_side(source, target, where, f):
    """Where f may go by the things that it leads from and to; where has None for what isn't settled."""
    if source.is_own(f):
        return list(range(target.thing_count))
    return target.hom(where[source.begins[f]], where[source.ends[f]])


def holds(target, where, three):
    """Whether what the two make goes to what those make to which they go, as far as that is settled."""
    first = where[three[0]]
    second = where[three[1]]
    both = where[three[2]]
    if first is None or second is None or both is None:
        return True
    return target.made(first, second) == both


def with_settled(where, f, goes):
    further = list(where)
    further[f] = goes
    return further


def choices(source, target, threes, where, f):
    """Where f may go, rising, as where the others go is settled."""
    of_f = [three for three in threes if f in three]
    possible = []
    for goes in side_by_side(source, target, where, f):
        further = with_settled(where, f, goes)
        if all([holds(target, further, three) for three in of_f]):
            possible.append(goes)
    return possible


def settle(source, target, threes, f, rows):
    """The rows once f is settled, too."""
    longer = []
    for where in rows:
        longer.extend([with_settled(where, f, goes) for goes in choices(source, target, threes, where, f)])
    return longer


def box_of(source, target, threes, where):
    box = []
    for f, goes in enumerate(where):
        box.append(choices(source, target, threes, where, f) if goes is None else [goes])
    return box


def boxes_of(source, target):
    threes = made_threes(source)
    rows = [[None] * source.arrow_count()]
    for f in settled_first(source, threes):
        rows = settle(source, target, threes, f, rows)
    boxes = [box_of(source, target, threes, where) for where in rows]
    return [box for box in boxes if [] not in box]


def ways_from(boxes, f):
    """How many choices there are of where arrow f and those behind it go."""
    total = 0
    for box in boxes:
        ways = 1
        for possible in box[f:]:
            ways = ways * len(possible)
        total += ways
    return total


def mapping_count(boxes):
    return ways_from(boxes, 0)


def boxes_with(boxes, f, goes):
    return [box for box in boxes if goes in box[f]]


def mapping_at(boxes, k):
    """Mapping number k, which there is: arrow by arrow, the mappings that go lower there are skipped."""
    where = []
    left = boxes
    ahead = k
    for f in range(len(boxes[0])):
        goes = 0
        while ways_from(boxes_with(left, f, goes), f + 1) <= ahead:
            ahead -= ways_from(boxes_with(left, f, goes), f + 1)
            goes += 1
        where.append(goes)
        left = boxes_with(left, f, goes)
    return where


def mappings_in(box):
    rows = [[]]
    for possible in box:
        longer = []
        for row in rows:
            longer.extend([row + [goes] for goes in possible])
        rows = longer
    return rows


def all_mappings(boxes):
    found = []
    for box in boxes:
        found.extend(mappings_in(box))
    return sorted(found)
