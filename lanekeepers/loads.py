"""Loads of a yard, and which of them its book lets stand."""

from lanekeepers.checks import check_book, check_country_and_yard, check_load, check_target, check_yard
from lanekeepers.countries import is_neighbour
from lanekeepers.errors import InvalidOrigin, InvalidTarget, TooMany
from lanekeepers.forms import added, is_load_of, is_within, pairs_of, stands_in
from lanekeepers.webs import check_web

MOST_LOADS = 400


def is_load(country, yard, value):
    check_country_and_yard(country, yard)
    return is_load_of(country.neighbours(yard), value)


def with_cart(country, yard, load, origin, target):
    check_country_and_yard(country, yard)
    check_load(country, yard, load)
    if not is_neighbour(country, yard, origin):
        raise InvalidOrigin(origin)
    if not is_neighbour(country, yard, target) or target == origin:
        raise InvalidTarget(target)
    return added(load, origin, target)


def is_at_most(country, yard, load, other):
    check_country_and_yard(country, yard)
    check_load(country, yard, load)
    check_load(country, yard, other)
    return is_within(load, other)


def lets(web, yard, load):
    check_web(web)
    check_yard(web.country, yard)
    check_load(web.country, yard, load)
    return stands_in(load, web.book(yard))


def loads_towards(web, yard, target):
    check_web(web)
    check_yard(web.country, yard)
    check_target(web.country, yard, target)
    return standing_towards(web, yard, target)


def heaviest(web, yard, target):
    check_web(web)
    check_yard(web.country, yard)
    check_target(web.country, yard, target)
    book, pairs = web.book(yard), pairs_towards(web.country, yard, target)
    return [load for load in standing_towards(web, yard, target) if is_greatest(load, book, pairs)]


def greatest_loads(web, yard):
    check_web(web)
    check_yard(web.country, yard)
    book, pairs = web.book(yard), pairs_of(web.country.neighbours(yard))
    return sorted([load for load in standing_loads(book, pairs) if is_greatest(load, book, pairs)])


def within(country, yard, book, other):
    check_country_and_yard(country, yard)
    check_book(country, yard, book)
    check_book(country, yard, other)
    pairs = pairs_of(country.neighbours(yard))
    return all([stands_in(load, other) for load in standing_loads(book, pairs)])


def pairs_towards(country, yard, target):
    """The sorted list of the pairs of this target that carts in the yard can have."""
    return [pair for pair in pairs_of(country.neighbours(yard)) if pair[1] == target]


def standing_towards(web, yard, target):
    """The sorted list of the loads towards the target, unchecked: never too many, as at most three pairs have it."""
    loads = standing_loads(web.book(yard), pairs_towards(web.country, yard, target))
    return sorted([load for load in loads if len(load) > 0])


def standing_loads(book, pairs):
    """All loads of these pairs, which are sorted, that stand by the book, the empty one among them."""
    loads = [[]]
    for origin, target in pairs:
        # What is at most a load that stands, stands: so each load comes of one without this pair that stands.
        loads = loads + [larger for load in loads for larger in with_pair(book, load, origin, target)]
        if len(loads) > MOST_LOADS:
            raise TooMany("loads", MOST_LOADS)
    return loads


def with_pair(book, load, origin, target):
    """The loads that stand and have carts of this pair besides the load, whose pairs are all less."""
    found = []
    while stands_in(load + [(origin, target, len(found) + 1)], book):
        found.append(load + [(origin, target, len(found) + 1)])
    return found


def is_greatest(load, book, pairs):
    """Whether the load, with any one cart more of these pairs, doesn't stand by the book."""
    return not any([stands_in(added(load, origin, target), book) for origin, target in pairs])
