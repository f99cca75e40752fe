"""Doors: gates of a web behind which other yards stand, and webs that are joined there."""

from lanekeepers.checks import check_gate
from lanekeepers.countries import MOST_YARDS, Country, is_gate
from lanekeepers.errors import InvalidDoor, InvalidGates, InvalidKind, TooMany
from lanekeepers.posts import posts
from lanekeepers.sides import told_witness
from lanekeepers.values import is_row
from lanekeepers.webs import Web, check_web

KINDS = ("clear", "own", "bad")


def kind(web, gate):
    check_web(web)
    check_gate(web.country, gate)
    if is_clear(web, gate):
        return "clear"
    return "own" if len(posts(web)) > 0 else "bad"


def clear_doors(web, gates):
    check_web(web)
    if not are_unlike_doors(web.country, gates):
        raise InvalidGates(gates)
    return sorted([gate for gate in gates if is_clear(web, gate)])


def joined(web, gate, other, door):
    check_web(web)
    check_gate(web.country, gate)
    check_web(other)
    if not is_gate(other.country, door):
        raise InvalidDoor(door)
    if len(web.country.yards) + len(other.country.yards) > MOST_YARDS:
        raise TooMany("yards", MOST_YARDS)
    near, far = new_numbers(web.country, gate, 0), new_numbers(other.country, door, len(web.country.lanes))
    # Where a gate stood the other web's yard stands now: it is called by that yard's number.
    near[gate], far[door] = far[other.country.neighbours(door)[0]], near[web.country.neighbours(gate)[0]]
    lanes = [(near[one], near[second]) for one, second in web.country.lanes]
    lanes = lanes + [(far[one], far[second]) for one, second in other.country.lanes if door not in (one, second)]
    books = [renamed_book(book, near) for book in web.books] + [renamed_book(book, far) for book in other.books]
    return Web(Country(lanes), books)


def are_never_stuck(near, far):
    check_kinds(near, far)
    return near == "clear" and far != "bad" or far == "clear" and near != "bad"


def parting(near, far):
    check_kinds(near, far)
    if near == far:
        return None
    # Of an own web just the clear ones are good company, of a clear one all but the bad ones.
    bounds = [] if "clear" in (near, far) else [(None, 2, 1)]
    return Web(Country([(0, 1), (1, 2)]), [[(2, bounds)]]), 2


def check_kinds(near, far):
    for told in (near, far):
        if told not in KINDS:
            raise InvalidKind(told)


def are_unlike_doors(country, value):
    """Whether any value is a list of unlike gates."""
    if not is_row(value) or not all([is_gate(country, gate) for gate in value]):
        return False
    return len(set(value)) == len(value)


def is_clear(web, gate):
    """Whether no yard is plugged towards the door."""
    country = web.country
    return all([told_witness(web, yard, country.ahead(yard, gate)) is None for yard in country.yards])


def new_numbers(country, gate, first):
    """A dict of the new number of each place but the gate, in the sequence of the places, from this one on."""
    places = [place for place in range(len(country.lanes) + 1) if place != gate]
    return {place: first + at for at, place in enumerate(places)}


def renamed_book(book, numbers):
    # None is no place: it stays None.
    return [(places, [(numbers.get(origin), numbers.get(target), most) for origin, target, most in bounds])
            for places, bounds in book]
