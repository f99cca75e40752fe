"""Knowns: what is known of a yard whose book is half known, and which loads are surely let or refused."""

from lanekeepers.checks import check_book, check_country_and_yard, check_load
from lanekeepers.errors import Contrary, InvalidKnown, InvalidWord, TooMany
from lanekeepers.forms import MOST_PLACES, carts_of, is_load_of, is_within, stands_in
from lanekeepers.values import is_count, is_row

MOST_SEEN = 12


def is_known(country, yard, value):
    check_country_and_yard(country, yard)
    return is_known_of(country.neighbours(yard), value)


def is_let(country, yard, known, load):
    check_country_and_yard(country, yard)
    check_known(country, yard, known)
    check_load(country, yard, load)
    if is_surely_let(known, load):
        return True
    return False if is_surely_refused(known, load) else None


def noted(country, yard, known, load, word):
    check_country_and_yard(country, yard)
    check_known(country, yard, known)
    check_load(country, yard, load)
    if not isinstance(word, str) or word not in ("let", "refused"):
        raise InvalidWord(word)
    if word == "let" and is_surely_refused(known, load) or word == "refused" and is_surely_let(known, load):
        raise Contrary()
    places, let, refused = known[0], [list(seen) for seen in known[1]], [list(seen) for seen in known[2]]
    grown = let if word == "let" else refused
    if len(grown) >= MOST_SEEN:
        raise TooMany("loads", MOST_SEEN)
    grown.append(list(load))
    return places, let, refused


def fits(country, yard, known, book):
    check_country_and_yard(country, yard)
    check_known(country, yard, known)
    check_book(country, yard, book)
    places, let, refused = known
    if any([many > places for many, _ in book]) or any([stands_in(load, book) for load in refused]):
        return False
    return all([stands_in(load, book) for load in let])


def check_known(country, yard, known):
    if not is_known_of(country.neighbours(yard), known):
        raise InvalidKnown(known)


def is_known_of(around, value):
    """Whether any value is a known of the yard with these neighbours."""
    if not isinstance(value, tuple) or len(value) != 3:
        return False
    places, let, refused = value
    if not is_count(places) or not 1 <= places <= MOST_PLACES:
        return False
    if not are_seen(around, let) or not are_seen(around, refused):
        return False
    if any([carts_of(load, None, None) > places for load in let]):
        return False
    return not any([is_surely_let(value, load) for load in refused])


def are_seen(around, value):
    """Whether any value may be one of the lists of loads of a known."""
    return is_row(value) and len(value) <= MOST_SEEN and all([is_load_of(around, load) for load in value])


def is_surely_let(known, load):
    return carts_of(load, None, None) <= 1 or any([is_within(load, seen) for seen in known[1]])


def is_surely_refused(known, load):
    return carts_of(load, None, None) > known[0] or any([is_within(seen, load) for seen in known[2]])
