"""Changes from one mapping to another, mappings that are alike, and partners.

Both mappings lead from the source to the target; a mapping is a list of where each arrow goes.
"""

from arrowsmake.kinds import can_be_undone_both_ways


def fits(source, target, first, second, change, f):
    """Whether the change's arrows at both ends of f make the same with where f goes."""
    before = target.made(first[f], change[source.ends[f]])
    behind = target.made(change[source.begins[f]], second[f])
    return before == behind


def arrows_up_to(source, x):
    """The arrows between thing x and those up to it, but for own ones: these always fit."""
    ends = [max(source.begins[f], source.ends[f]) for f in range(source.arrow_count())]
    return [f for f in range(source.thing_count, source.arrow_count()) if ends[f] == x]


def longer_changes(source, target, first, second, change, possible):
    """The change's beginning with one more arrow, each that is possible and fits."""
    asked = arrows_up_to(source, len(change))
    longer = []
    for arrow in possible:
        further = change + [arrow]
        if all([fits(source, target, first, second, further, f) for f in asked]):
            longer.append(further)
    return longer


def changes_among(source, target, first, second, choices):
    """All changes, in order, with an arrow of choices[x] for each thing x."""
    rows = [[]]
    for possible in choices:
        longer = []
        for change in rows:
            longer.extend(longer_changes(source, target, first, second, change, possible))
        rows = longer
    return rows


def arrows_between(source, target, first, second):
    """For each thing, the arrows from where first takes it to where second does."""
    return [target.hom(first[x], second[x]) for x in range(source.thing_count)]


def all_changes(source, target, first, second):
    choices = arrows_between(source, target, first, second)
    return changes_among(source, target, first, second, choices)


def undone_both_ways(category, arrows):
    return [f for f in arrows if can_be_undone_both_ways(category, f)]


def are_alike(source, target, first, second):
    between = arrows_between(source, target, first, second)
    choices = [undone_both_ways(target, arrows) for arrows in between]
    return len(changes_among(source, target, first, second, choices)) > 0


def comes_from_one(source, back, arrow, u, there):
    """Whether just one arrow out of there goes back to one that makes u with arrow ahead of it."""
    return len([g for g in there if source.made(arrow, back[g]) == u]) == 1


def all_come_from_one(source, target, mapping, back, x, arrow):
    """Whether, by x's arrow, arrows from x are those from where x goes, one by one."""
    for y in range(target.thing_count):
        there = target.hom(mapping[x], y)
        for u in source.hom(x, back[y]):
            if not comes_from_one(source, back, arrow, u, there):
                return False
    return True


def partner_arrows(source, target, mapping, back, x):
    to = source.hom(x, back[mapping[x]])
    return [arrow for arrow in to if all_come_from_one(source, target, mapping, back, x, arrow)]


def partner_choices(source, target, mapping, back):
    """For each thing, the arrows that a partner's change may have; none at all once a thing has none."""
    choices = []
    for x in range(source.thing_count):
        arrows = partner_arrows(source, target, mapping, back, x)
        if arrows == []:
            return []
        choices.append(arrows)
    return choices


def partner_changes(source, target, mapping, back):
    """The changes, in order, by which back is a partner of mapping."""
    choices = partner_choices(source, target, mapping, back)
    if choices == []:
        return []
    itself = list(range(source.arrow_count()))
    there_and_back = [back[goes] for goes in mapping]
    return changes_among(source, source, itself, there_and_back, choices)


def first_partner(source, target, mapping, backs):
    """1, the first of backs that is a partner, and its first change; or 0. backs are in order."""
    for back in backs:
        found = partner_changes(source, target, mapping, back)
        if found != []:
            return [1] + back + found[0]
    return [0]
