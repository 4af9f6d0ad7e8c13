"""Things, arrows and what they make; whether that is a category, or its first fault."""

NOT_TOLD = 1
LEADS_ELSEWHERE = 2
NOT_THE_SAME = 3


class Category:
    """Things, arrows and what they make, as far as told: it may be no category yet."""

    def __init__(self, thing_count):
        self.thing_count = thing_count
        # Arrow x, for each thing x, is x's own: so both lists begin alike.
        self.begins = list(range(thing_count))
        self.ends = list(range(thing_count))
        self.told = {}

    def arrow_count(self):
        return len(self.begins)

    def has_thing(self, x):
        return x < self.thing_count

    def has_arrow(self, f):
        return f < self.arrow_count()

    def is_own(self, f):
        return f < self.thing_count

    def add_arrow(self, x, y):
        self.begins.append(x)
        self.ends.append(y)
        return self.arrow_count() - 1

    def tell(self, f, g, h):
        self.told[(f, g)] = h

    def leads(self, f, x, y):
        return self.begins[f] == x and self.ends[f] == y

    def meet(self, f, g):
        return self.ends[f] == self.begins[g]

    def made(self, f, g):
        """What f and, behind it, g make, if they meet; None if it isn't told."""
        if self.is_own(f):
            return g
        if self.is_own(g):
            return f
        return self.told.get((f, g))

    def hom(self, x, y):
        return [f for f in range(self.arrow_count()) if self.leads(f, x, y)]

    def turned(self):
        """Another one, with all arrows turned round."""
        other = Category(self.thing_count)
        other.begins = list(self.ends)
        other.ends = list(self.begins)
        for met in self.told:
            other.tell(met[1], met[0], self.told[met])
        return other


def fault_of_pair(category, f, g):
    """The fault's number, or 0; f and g meet."""
    h = category.made(f, g)
    if h is None:
        return NOT_TOLD
    if not category.leads(h, category.begins[f], category.ends[g]):
        return LEADS_ELSEWHERE
    return 0


def first_fault_of_pairs(category):
    for f in range(category.arrow_count()):
        for g in range(category.arrow_count()):
            if category.meet(f, g):
                fault = fault_of_pair(category, f, g)
                if fault != 0:
                    return [fault, f, g]
    return [0]


def same_both_ways(category, f, g, h):
    first_two = category.made(f, g)
    last_two = category.made(g, h)
    return category.made(first_two, h) == category.made(f, last_two)


def first_fault_of_threes(category):
    """No pair has a fault: what two make is told, and leads where it must."""
    for f in range(category.arrow_count()):
        for g in range(category.arrow_count()):
            for h in range(category.arrow_count()):
                if category.meet(f, g) and category.meet(g, h):
                    if not same_both_ways(category, f, g, h):
                        return [NOT_THE_SAME, f, g, h]
    return [0]


def first_fault(category):
    fault = first_fault_of_pairs(category)
    if fault != [0]:
        return fault
    return first_fault_of_threes(category)


def is_category(category):
    return first_fault(category) == [0]
