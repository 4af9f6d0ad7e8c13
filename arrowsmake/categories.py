"""The calls about two of things and arrows, and what is answered of each."""

from arrowsmake.changes import all_changes, are_alike, first_partner
from arrowsmake.kinds import kinds_of
from arrowsmake.limits import first_equalizer, first_product, first_pullback, last_thing
from arrowsmake.mappings import all_mappings, boxes_of, mapping_at, mapping_count
from arrowsmake.structure import Category, first_fault, is_category

NOT_REFUSED = 0
DOES_NOT_FIT = -1
NO_SUCH_NUMBER = -2
NO_SUCH_ARROW = -3
NO_SUCH_MAPPING = -3
TOO_MANY_ARROWS = -5
NO_CATEGORY = -6
TOO_MANY_MAPPINGS = -7

MOST_THINGS = 4
MOST_ARROWS = 9
MOST_MAPPINGS_BACK = 2000


def answer_start(pair, numbers):
    n = numbers[1]
    if n < 1 or n > MOST_THINGS:
        return [DOES_NOT_FIT]
    pair[numbers[0]] = Category(n)
    return [n]


def answer_arrow(pair, numbers):
    category = pair[numbers[0]]
    x = numbers[1]
    y = numbers[2]
    if not category.has_thing(x) or not category.has_thing(y):
        return [DOES_NOT_FIT]
    if category.arrow_count() == MOST_ARROWS:
        return [TOO_MANY_ARROWS]
    return [category.add_arrow(x, y)]


def answer_make(pair, numbers):
    category = pair[numbers[0]]
    f = numbers[1]
    g = numbers[2]
    h = numbers[3]
    if not all([category.has_arrow(named) for named in (f, g, h)]):
        return [NO_SUCH_ARROW]
    if category.is_own(f) or category.is_own(g) or not category.meet(f, g):
        return [DOES_NOT_FIT]
    category.tell(f, g, h)
    return [h]


def answer_check(pair, numbers):
    return first_fault(pair[numbers[0]])


def refusal_of_arrows(category, arrows):
    """The refusal if it's no category or has not all of these arrows; else NOT_REFUSED."""
    if not is_category(category):
        return NO_CATEGORY
    if not all([category.has_arrow(f) for f in arrows]):
        return NO_SUCH_ARROW
    return NOT_REFUSED


def refusal_of_things(category, things):
    """The refusal if it's no category or has not all of these things; else NOT_REFUSED."""
    if not is_category(category):
        return NO_CATEGORY
    if not all([category.has_thing(x) for x in things]):
        return DOES_NOT_FIT
    return NOT_REFUSED


def answer_kinds(pair, numbers):
    category = pair[numbers[0]]
    refusal = refusal_of_arrows(category, numbers[1:])
    if refusal != NOT_REFUSED:
        return [refusal]
    return [kinds_of(category, numbers[1])]


def answer_hom(pair, numbers):
    category = pair[numbers[0]]
    refusal = refusal_of_things(category, numbers[1:])
    if refusal != NOT_REFUSED:
        return [refusal]
    between = category.hom(numbers[1], numbers[2])
    return [len(between)] + between


def answer_turn(pair, numbers):
    turned = pair[numbers[0]].turned()
    pair[numbers[0]] = turned
    return [turned.arrow_count()]


def answer_last(pair, numbers):
    category = pair[numbers[0]]
    if not is_category(category):
        return [NO_CATEGORY]
    return last_thing(category)


def answer_product(pair, numbers):
    category = pair[numbers[0]]
    refusal = refusal_of_things(category, numbers[1:])
    if refusal != NOT_REFUSED:
        return [refusal]
    return first_product(category, numbers[1], numbers[2])


def answer_pullback(pair, numbers):
    category = pair[numbers[0]]
    f = numbers[1]
    g = numbers[2]
    refusal = refusal_of_arrows(category, (f, g))
    if refusal != NOT_REFUSED:
        return [refusal]
    if category.ends[f] != category.ends[g]:
        return [DOES_NOT_FIT]
    return first_pullback(category, f, g)


def answer_equalizer(pair, numbers):
    category = pair[numbers[0]]
    f = numbers[1]
    g = numbers[2]
    refusal = refusal_of_arrows(category, (f, g))
    if refusal != NOT_REFUSED:
        return [refusal]
    if not category.leads(f, category.begins[g], category.ends[g]):
        return [DOES_NOT_FIT]
    return first_equalizer(category, f, g)


def both_are_categories(pair):
    return is_category(pair[0]) and is_category(pair[1])


def answer_maps(pair, numbers):
    if not both_are_categories(pair):
        return [NO_CATEGORY]
    return [mapping_count(boxes_of(pair[numbers[0]], pair[1 - numbers[0]]))]


def answer_of_mappings(pair, numbers, tell):
    """What tell answers of the mappings that are asked for, once it's sure that there are such."""
    if not both_are_categories(pair):
        return [NO_CATEGORY]
    source = pair[numbers[0]]
    target = pair[1 - numbers[0]]
    boxes = boxes_of(source, target)
    if max(numbers[1:]) >= mapping_count(boxes):
        return [NO_SUCH_MAPPING]
    return tell(source, target, [mapping_at(boxes, k) for k in numbers[1:]])


def tell_mapping(source, target, asked):
    return asked[0]


def tell_changes(source, target, asked):
    found = all_changes(source, target, asked[0], asked[1])
    if found == []:
        return [0]
    return [len(found)] + found[0]


def tell_alike(source, target, asked):
    if are_alike(source, target, asked[0], asked[1]):
        return [1]
    return [0]


def tell_partner(source, target, asked):
    boxes = boxes_of(target, source)
    if mapping_count(boxes) > MOST_MAPPINGS_BACK:
        return [TOO_MANY_MAPPINGS]
    return first_partner(source, target, asked[0], all_mappings(boxes))


def answer_nth(pair, numbers):
    return answer_of_mappings(pair, numbers, tell_mapping)


def answer_changes(pair, numbers):
    return answer_of_mappings(pair, numbers, tell_changes)


def answer_alike(pair, numbers):
    return answer_of_mappings(pair, numbers, tell_alike)


def answer_partner(pair, numbers):
    return answer_of_mappings(pair, numbers, tell_partner)


def answer_swap(pair, numbers):
    pair.reverse()
    return [0]


# Both by a call's number: how many numbers stand behind it, and what answers it.
LENGTHS = (2, 3, 4, 1, 2, 3, 1, 1, 3, 3, 3, 1, 2, 3, 3, 2, 0)
ANSWERS = (
    answer_start,
    answer_arrow,
    answer_make,
    answer_check,
    answer_kinds,
    answer_hom,
    answer_turn,
    answer_last,
    answer_product,
    answer_pullback,
    answer_equalizer,
    answer_maps,
    answer_nth,
    answer_changes,
    answer_alike,
    answer_partner,
    answer_swap,
)


def answer_call(pair, call, numbers):
    """What is answered of one call; numbers begin with which of the pair it is about, if they aren't empty."""
    if numbers != [] and numbers[0] > 1:
        return [NO_SUCH_NUMBER]
    answer = ANSWERS[call]
    return answer(pair, numbers)


def answers(calls):
    """What is answered of all calls, one behind another, each with how many numbers ahead."""
    pair = [Category(1), Category(1)]
    given = []
    at = 0
    while at < len(calls):
        call = calls[at]
        behind = at + 1 + LENGTHS[call]
        answered = answer_call(pair, call, calls[at + 1:behind])
        given.append(len(answered))
        given.extend(answered)
        at = behind
    return given
