"""The calls about two of things and arrows, and what is answered of each."""

from arrowsmake.kinds import kinds_of
from arrowsmake.limits import first_product, last_thing
from arrowsmake.structure import Category, first_fault, is_category

DOES_NOT_FIT = -1
NO_SUCH_NUMBER = -2
NO_SUCH_ARROW = -3
TOO_MANY_ARROWS = -5
NO_CATEGORY = -6

MOST_THINGS = 4
MOST_ARROWS = 9


def answer_start(pair, numbers):
    n = numbers[1]
    if n < 1 or n > MOST_THINGS:
        return [DOES_NOT_FIT]
    pair[numbers[0]] = Category(n)
    return [n]


def answer_arrow(pair, numbers):
    category = pair[numbers[0]]
    x = numbers[1]
    y = numbers[2]
    if not category.has_thing(x) or not category.has_thing(y):
        return [DOES_NOT_FIT]
    if category.arrow_count() == MOST_ARROWS:
        return [TOO_MANY_ARROWS]
    return [category.add_arrow(x, y)]


def answer_make(pair, numbers):
    category = pair[numbers[0]]
    f = numbers[1]
    g = numbers[2]
    h = numbers[3]
    if not all([category.has_arrow(named) for named in (f, g, h)]):
        return [NO_SUCH_ARROW]
    if category.is_own(f) or category.is_own(g) or not category.meet(f, g):
        return [DOES_NOT_FIT]
    category.tell(f, g, h)
    return [h]


def answer_check(pair, numbers):
    return first_fault(pair[numbers[0]])


def answer_kinds(pair, numbers):
    category = pair[numbers[0]]
    f = numbers[1]
    if not is_category(category):
        return [NO_CATEGORY]
    if not category.has_arrow(f):
        return [NO_SUCH_ARROW]
    return [kinds_of(category, f)]


def answer_hom(pair, numbers):
    category = pair[numbers[0]]
    x = numbers[1]
    y = numbers[2]
    if not is_category(category):
        return [NO_CATEGORY]
    if not category.has_thing(x) or not category.has_thing(y):
        return [DOES_NOT_FIT]
    between = category.hom(x, y)
    return [len(between)] + between


def answer_turn(pair, numbers):
    turned = pair[numbers[0]].turned()
    pair[numbers[0]] = turned
    return [turned.arrow_count()]


def answer_last(pair, numbers):
    category = pair[numbers[0]]
    if not is_category(category):
        return [NO_CATEGORY]
    return last_thing(category)


def answer_product(pair, numbers):
    category = pair[numbers[0]]
    x = numbers[1]
    y = numbers[2]
    if not is_category(category):
        return [NO_CATEGORY]
    if not category.has_thing(x) or not category.has_thing(y):
        return [DOES_NOT_FIT]
    return first_product(category, x, y)


# Both by a call's number: how many numbers stand behind it, and what answers it.
LENGTHS = (2, 3, 4, 1, 2, 3, 1, 1, 3)
ANSWERS = (
    answer_start,
    answer_arrow,
    answer_make,
    answer_check,
    answer_kinds,
    answer_hom,
    answer_turn,
    answer_last,
    answer_product,
)


def answer_call(pair, call, numbers):
    """What is answered of one call; numbers begin with which of the pair it is about."""
    if numbers[0] > 1:
        return [NO_SUCH_NUMBER]
    answer = ANSWERS[call]
    return answer(pair, numbers)


def answers(calls):
    """What is answered of all calls, one behind another, each with how many numbers ahead."""
    pair = [Category(1), Category(1)]
    given = []
    at = 0
    while at < len(calls):
        call = calls[at]
        behind = at + 1 + LENGTHS[call]
        answered = answer_call(pair, call, calls[at + 1:behind])
        given.append(len(answered))
        given.extend(answered)
        at = behind
    return given
