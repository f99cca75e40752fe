"""Bounded webs: in each yard places, and bounds for the carts that go on to a neighbour yard."""

from lanekeepers.checks import check_yard, check_yard_ahead
from lanekeepers.countries import is_yard
from lanekeepers.errors import NotBounded
from lanekeepers.webs import check_web


def is_bounded(web):
    check_web(web)
    return all([is_bounded_book(web.country, web.book(yard)) for yard in web.country.yards])


def places_of(web, yard):
    check_web(web)
    check_yard(web.country, yard)
    check_bounded(web)
    return places_at(web, yard)


def bound_of(web, yard, target):
    check_web(web)
    check_yard(web.country, yard)
    check_yard_ahead(web.country, yard, target)
    check_bounded(web)
    return bound_towards(web, yard, target)


def check_bounded(web):
    if not is_bounded(web):
        raise NotBounded()


def is_bounded_book(country, book):
    if len(book) != 1:
        return False
    places, bounds = book[0]
    targets = [target for _, target, _ in bounds]
    return all([origin is None and is_yard(country, target) and 1 <= most <= places and targets.count(target) == 1
                for origin, target, most in bounds])


def places_at(web, yard):
    """The places of a yard of a bounded web."""
    return web.book(yard)[0][0]


def bound_towards(web, yard, target):
    """The bound of a yard of a bounded web towards a neighbour yard: its places if none is told."""
    places, bounds = web.book(yard)[0]
    told = [most for _, end, most in bounds if end == target]
    return told[0] if len(told) > 0 else places
