"""Ways between the places of a country, what lies behind a yard, and other numbers for the places."""

from lanekeepers.checks import check_country, check_country_and_yard, check_place, check_target
from lanekeepers.countries import Country, is_place, is_yard
from lanekeepers.errors import InvalidEnd, InvalidGoal, InvalidPlaces, InvalidStart
from lanekeepers.values import is_row


def way(country, start, end):
    check_country(country)
    if not is_place(country, start):
        raise InvalidStart(start)
    if not is_place(country, end):
        raise InvalidEnd(end)
    return places_along(country, start, end)


def distance(country, place, goal):
    check_country(country)
    check_place(country, place)
    if not is_place(country, goal):
        raise InvalidGoal(goal)
    return lanes_along(country, place, goal)


def next_place(country, place, goal):
    check_country(country)
    check_place(country, place)
    if not is_place(country, goal) or goal == place:
        raise InvalidGoal(goal)
    return country.ahead(place, goal)


def between(country, yard, goal):
    check_country_and_yard(country, yard)
    if not is_yard(country, goal):
        raise InvalidGoal(goal)
    return places_along(country, yard, goal)[1:-1]


def behind(country, yard, target):
    check_country_and_yard(country, yard)
    check_target(country, yard, target)
    return yards_behind(country, yard, target)


def all_ways(country):
    check_country(country)
    return [(start, end) for start in country.gates for end in country.gates if start != end]


def renamed(country, places):
    check_country(country)
    if not are_new_numbers(country, places):
        raise InvalidPlaces(places)
    return Country([(places[one], places[other]) for one, other in country.lanes])


def are_new_numbers(country, value):
    """Whether any value is a list of all places of the country, each once."""
    if not is_row(value) or not all([is_place(country, place) for place in value]):
        return False
    return sorted(value) == list(range(len(country.lanes) + 1))


def places_along(country, start, end):
    """The way from a place to another one, or to itself, unchecked."""
    places = [start]
    while places[-1] != end:
        places.append(country.ahead(places[-1], end))
    return places


def yards_behind(country, yard, target):
    """The sorted list of the yards behind the yard, seen from the target, unchecked."""
    return [other for other in country.yards if other == yard or country.ahead(yard, other) != target]


def lanes_along(country, place, goal):
    """The distance of two places, unchecked."""
    return len(places_along(country, place, goal)) - 1
