"""The errors that belong to parameters of certain names everywhere: each check raises the one of its name."""

from lanekeepers.countries import Country, is_gate, is_neighbour, is_place, is_yard
from lanekeepers.errors import InvalidBook, InvalidCountry, InvalidGate, InvalidLoad, InvalidMany, InvalidPlace
from lanekeepers.errors import InvalidTarget, InvalidYard
from lanekeepers.forms import is_book_of, is_load_of
from lanekeepers.values import is_count


def check_country(country):
    if not isinstance(country, Country):
        raise InvalidCountry(country)


def check_place(country, place):
    if not is_place(country, place):
        raise InvalidPlace(place)


def check_yard(country, yard):
    if not is_yard(country, yard):
        raise InvalidYard(yard)


def check_gate(country, gate):
    if not is_gate(country, gate):
        raise InvalidGate(gate)


def check_country_and_yard(country, yard):
    check_country(country)
    check_yard(country, yard)


def check_target(country, yard, target):
    """A target that may be any neighbour of the yard."""
    if not is_neighbour(country, yard, target):
        raise InvalidTarget(target)


def check_yard_ahead(country, yard, target):
    """A target that is a neighbour of the yard and a yard, too."""
    if not is_neighbour(country, yard, target) or not is_yard(country, target):
        raise InvalidTarget(target)


def check_book(country, yard, book):
    if not is_book_of(country.neighbours(yard), book):
        raise InvalidBook(book)


def check_load(country, yard, load):
    if not is_load_of(country.neighbours(yard), load):
        raise InvalidLoad(load)


def check_many(many, most):
    if not is_count(many) or many > most:
        raise InvalidMany(many)
