"""Sides: a yard and a neighbour yard of it; which of them are plugged, and the witnesses of that."""

from lanekeepers.checks import check_yard, check_yard_ahead
from lanekeepers.countries import is_neighbour, is_yard
from lanekeepers.forms import added, carts_of, is_among, is_load_of, stands_in
from lanekeepers.loads import standing_towards
from lanekeepers.ways import yards_behind
from lanekeepers.webs import check_web


def is_plugged(web, yard, target):
    check_web_and_side(web, yard, target)
    return told_witness(web, yard, target) is not None


def witness(web, yard, target):
    check_web_and_side(web, yard, target)
    return told_witness(web, yard, target)


def is_witness(web, yard, target, value):
    check_web_and_side(web, yard, target)
    around = web.country.neighbours(yard)
    if not isinstance(value, tuple) or len(value) != 2:
        return False
    load, barred = value
    if not is_load_towards(around, target, load) or not is_among(around, barred) or barred == target:
        return False
    book = web.book(yard)
    return stands_in(load, book) and keeps_out(book, load, target, barred)


def plugged_sides(web):
    check_web(web)
    return [side for side in sides_of(web.country) if told_witness(web, side[0], side[1]) is not None]


def backs(web):
    check_web(web)
    return [yards_behind(web.country, yard, target) for yard, target in plugged_sides(web)]


def check_web_and_side(web, yard, target):
    check_web(web)
    check_yard(web.country, yard)
    check_yard_ahead(web.country, yard, target)


def is_side_of(country, value):
    """Whether any value is a side of the country."""
    if not isinstance(value, tuple) or len(value) != 2:
        return False
    return is_yard(country, value[0]) and is_yard(country, value[1]) and is_neighbour(country, value[0], value[1])


def sides_of(country):
    """The sorted list of all sides of the country."""
    return [(yard, near) for yard in country.yards for near in country.neighbours(yard) if is_yard(country, near)]


def told_witness(web, yard, target):
    """The told witness of the side, unchecked; None if it isn't plugged."""
    book = web.book(yard)
    others = [near for near in web.country.neighbours(yard) if near != target]
    for _, load in by_carts(standing_towards(web, yard, target)):
        for barred in others:
            if keeps_out(book, load, target, barred):
                return load, barred
    return None


def by_carts(loads):
    """The loads by how many carts they have, then by themselves: a list of tuples of both."""
    return sorted([(carts_of(load, None, None), load) for load in loads])


def keeps_out(book, load, origin, target):
    """Whether the load with one cart more doesn't stand by the book."""
    return not stands_in(added(load, origin, target), book)


def is_load_towards(around, target, value):
    """Whether any value is a load that is not empty, all of whose carts have the target."""
    if not is_load_of(around, value) or len(value) == 0:
        return False
    return all([end == target for _, end, _ in value])
