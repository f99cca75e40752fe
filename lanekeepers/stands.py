"""Carts, and stands of a web: lists of carts that its books let stand."""

from lanekeepers.checks import check_country, check_yard
from lanekeepers.countries import is_gate, is_yard
from lanekeepers.errors import InvalidStand
from lanekeepers.forms import stands_in
from lanekeepers.values import is_row
from lanekeepers.ways import lanes_along, places_along
from lanekeepers.webs import check_web


def is_cart(country, value):
    check_country(country)
    return is_cart_of(country, value)


def is_stand(web, value):
    check_web(web)
    return is_stand_of(web, value)


def load_at(web, stand, yard):
    check_web(web)
    check_stand(web, stand)
    check_yard(web.country, yard)
    return load_of(web.country, stand, yard)


def counted(web, stand):
    check_web(web)
    check_stand(web, stand)
    return len(stand)


def lanes_left(web, stand):
    check_web(web)
    check_stand(web, stand)
    return sum([lanes_along(web.country, yard, end) for yard, _, end in stand])


def check_stand(web, stand):
    if not is_stand_of(web, stand):
        raise InvalidStand(stand)


def is_cart_of(country, value):
    if not isinstance(value, tuple) or len(value) != 3:
        return False
    yard, start, end = value
    if not is_yard(country, yard) or not are_unlike_gates(country, start, end):
        return False
    return yard in places_along(country, start, end)


def are_unlike_gates(country, start, end):
    return is_gate(country, start) and is_gate(country, end) and start != end


def is_stand_of(web, value):
    country = web.country
    if not is_row(value) or not all([is_cart_of(country, cart) for cart in value]):
        return False
    return all([stands_in(load_of(country, value, yard), web.book(yard)) for yard in country.yards])


def load_of(country, carts, yard):
    """The load at the yard of these carts, whether or not they make a stand."""
    many = {}
    for place, start, end in carts:
        if place == yard:
            pair = (country.ahead(yard, start), country.ahead(yard, end))
            many[pair] = many.get(pair, 0) + 1
    return [(origin, target, many[(origin, target)]) for origin, target in sorted(list(many))]
