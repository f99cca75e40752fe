"""Books: what a keeper lets stand in a yard."""

from lanekeepers.checks import check_book, check_country_and_yard, check_load
from lanekeepers.errors import TooMany
from lanekeepers.forms import MOST_ALTERNATIVES, MOST_BOUNDS, copied_book, is_book_of, stands_in


def is_book(country, yard, value):
    check_country_and_yard(country, yard)
    return is_book_of(country.neighbours(yard), value)


def stands(country, yard, book, load):
    check_country_and_yard(country, yard)
    check_book(country, yard, book)
    check_load(country, yard, load)
    return stands_in(load, book)


def either(country, yard, book, other):
    check_two_books(country, yard, book, other)
    if len(book) + len(other) > MOST_ALTERNATIVES:
        raise TooMany("alternatives", MOST_ALTERNATIVES)
    return copied_book(book) + copied_book(other)


def both(country, yard, book, other):
    check_two_books(country, yard, book, other)
    if len(book) * len(other) > MOST_ALTERNATIVES:
        raise TooMany("alternatives", MOST_ALTERNATIVES)
    met = [met_alternative(one, second) for one in book for second in other]
    if any([len(bounds) > MOST_BOUNDS for _, bounds in met]):
        raise TooMany("bounds", MOST_BOUNDS)
    return met


def met_alternative(one, other):
    """The alternative by which stands what stands by each of these two."""
    return min(one[0], other[0]), list(one[1]) + list(other[1])


def check_two_books(country, yard, book, other):
    check_country_and_yard(country, yard)
    check_book(country, yard, book)
    check_book(country, yard, other)
