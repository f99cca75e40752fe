"""Webs: a country with a book for each of its yards."""

from lanekeepers.checks import check_book, check_country
from lanekeepers.countries import is_yard
from lanekeepers.errors import InvalidBooks, InvalidWeb, InvalidYard
from lanekeepers.forms import copied_book
from lanekeepers.values import is_row


class Web:
    """A country and its books, told by the sequence of the yards; it never changes."""

    def __init__(self, country, books):
        check_country(country)
        yards = country.yards
        if not is_row(books) or len(books) != len(yards):
            raise InvalidBooks(books)
        for yard, book in zip(yards, books):
            check_book(country, yard, book)
        self._country = country
        self._books = {yard: copied_book(book) for yard, book in zip(yards, books)}

    @property
    def country(self):
        return self._country

    @property
    def books(self):
        return [copied_book(self._books[yard]) for yard in self._books]

    def book(self, yard):
        if not is_yard(self._country, yard):
            raise InvalidYard(yard)
        return copied_book(self._books[yard])

    def __eq__(self, other):
        return isinstance(other, Web) and self._country == other._country and self._books == other._books


def check_web(web):
    if not isinstance(web, Web):
        raise InvalidWeb(web)
