"""Turned webs, loads, stands and steps: everything goes back the way it came."""

from lanekeepers.checks import check_country, check_country_and_yard, check_load
from lanekeepers.stands import check_stand
from lanekeepers.steps import check_steps
from lanekeepers.webs import Web, check_web


def turned(web):
    check_web(web)
    return Web(web.country, [turned_book(book) for book in web.books])


def turned_load(country, yard, load):
    check_country_and_yard(country, yard)
    check_load(country, yard, load)
    return sorted([(target, origin, many) for origin, target, many in load])


def turned_stand(web, stand):
    check_web(web)
    check_stand(web, stand)
    return turned_carts(stand)


def turned_steps(country, steps):
    check_country(country)
    check_steps(country, steps)
    return [turned_step(country, step) for step in list(steps)[::-1]]


def turned_book(book):
    return [(places, [(target, origin, most) for origin, target, most in bounds]) for places, bounds in book]


def turned_carts(carts):
    """The sorted list of the turned carts."""
    return sorted([(yard, end, start) for yard, start, end in carts])


def turned_step(country, step):
    """The step of the turned cart that takes this one back."""
    if step[0] == "in":
        _, start, end = step
        return "on", country.neighbours(start)[0], end, start
    _, yard, start, end = step
    place = country.ahead(yard, end)
    return ("in", end, start) if place == end else ("on", place, end, start)
