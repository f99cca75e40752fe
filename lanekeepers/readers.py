"""Countries, books, webs, stands and steps, read from texts: what is readable, but tells no such thing, is wrong
at no position."""

from lanekeepers.checks import check_country, check_country_and_yard
from lanekeepers.countries import Country
from lanekeepers.errors import InvalidBook, InvalidBooks, InvalidLanes, InvalidText
from lanekeepers.forms import is_book_of
from lanekeepers.scanning import take_book, take_carts, take_lanes, take_steps, take_web, whole
from lanekeepers.stands import is_stand_of
from lanekeepers.steps import are_steps
from lanekeepers.webs import Web, check_web


def country_of(text):
    lanes = whole(text, take_lanes)
    try:
        return Country(lanes)
    except InvalidLanes:
        raise InvalidText(None) from None


def book_of(country, yard, text):
    check_country_and_yard(country, yard)
    book = whole(text, take_book)
    if not is_book_of(country.neighbours(yard), book):
        raise InvalidText(None)
    return book


def web_of(text):
    lanes, books = whole(text, take_web)
    try:
        return Web(Country(lanes), books)
    except (InvalidLanes, InvalidBooks, InvalidBook):
        raise InvalidText(None) from None


def stand_of(web, text):
    check_web(web)
    carts = whole(text, take_carts)
    if not is_stand_of(web, carts):
        raise InvalidText(None)
    return sorted(carts)


def steps_of(country, text):
    check_country(country)
    steps = whole(text, take_steps)
    if not are_steps(country, steps):
        raise InvalidText(None)
    return steps
