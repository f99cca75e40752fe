"""Mends: how sides of bounded webs are made to be plugged no more, and what it costs."""

from lanekeepers.bounds import bound_towards, check_bounded, places_at
from lanekeepers.countries import is_yard
from lanekeepers.errors import InvalidMends, InvalidPost, InvalidPrices
from lanekeepers.forms import MOST_PLACES
from lanekeepers.sides import is_side_of
from lanekeepers.values import is_count, is_row
from lanekeepers.webs import Web, check_web


def mended(web, mends):
    check_web(web)
    check_bounded(web)
    if not are_mends(web, mends):
        raise InvalidMends(mends)
    books = {yard: web.book(yard) for yard in web.country.yards}
    for word, yard, target in mends:
        books[yard] = mended_book(web, word, yard, target)
    return Web(web.country, [books[yard] for yard in web.country.yards])


def price(web, prices, post):
    check_web(web)
    check_prices(web.country, prices)
    if not is_yard(web.country, post):
        raise InvalidPost(post)
    check_bounded(web)
    return price_of(web, prices, post)


def cheapest(web, prices):
    check_web(web)
    check_prices(web.country, prices)
    check_bounded(web)
    return min([(price_of(web, prices, post), post) for post in web.country.yards])


def cheapest_mends(web, prices):
    _, post = cheapest(web, prices)
    return sorted([mend for _, mend in priced_mends(web, prices, post)])


def check_prices(country, prices):
    if not is_row(prices) or len(prices) != len(country.yards):
        raise InvalidPrices(prices)
    if not all([is_row(pair) and len(pair) == 2 and is_count(pair[0]) and is_count(pair[1]) for pair in prices]):
        raise InvalidPrices(prices)


def are_mends(web, value):
    """Whether any value is a list of mends of the bounded web, of unlike yards."""
    if not is_row(value) or not all([is_mend(web, mend) for mend in value]):
        return False
    return len({yard for _, yard, _ in value}) == len(value)


def is_mend(web, value):
    if not isinstance(value, tuple) or len(value) != 3:
        return False
    word, yard, target = value
    if not is_side_of(web.country, (yard, target)) or not is_plugged_by_bound(web, yard, target):
        return False
    return word in mends_for(places_at(web, yard))


def mends_for(places):
    """The words of the mends that there are for plugged sides of a yard with so many places."""
    return [word for word, is_there in (("place", places < MOST_PLACES), ("bound", places > 1)) if is_there]


def is_plugged_by_bound(web, yard, target):
    return bound_towards(web, yard, target) == places_at(web, yard)


def mended_book(web, word, yard, target):
    """The book of the yard, told anew, behind this mend."""
    places = places_at(web, yard)
    near_yards = [near for near in web.country.neighbours(yard) if is_yard(web.country, near)]
    bounds = {near: bound_towards(web, yard, near) for near in near_yards}
    if word == "place":
        bounds = {near: bounds[near] if bounds[near] < places else places + 1 for near in near_yards}
        places = places + 1
    bounds[target] = places - 1
    return [(places, [(None, near, bounds[near]) for near in near_yards if bounds[near] < places])]


def price_of(web, prices, post):
    return sum([cost for cost, _ in priced_mends(web, prices, post)])


def priced_mends(web, prices, post):
    """A tuple (price, mend) of the cheaper mend for each other yard that is plugged towards this one."""
    told = []
    for yard, (place, bound) in zip(web.country.yards, prices):
        if yard != post and is_plugged_by_bound(web, yard, web.country.ahead(yard, post)):
            costs = {"place": place, "bound": bound}
            # Of the two words "bound" is the lesser one: so it is taken where both cost the same.
            cost, word = min([(costs[name], name) for name in mends_for(places_at(web, yard))])
            told.append((cost, (word, yard, web.country.ahead(yard, post))))
    return told
