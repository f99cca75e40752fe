"""Lines: webs of yards in a row, and with how many carts each way they can stick."""

from lanekeepers.bounds import bound_towards, is_bounded, places_at
from lanekeepers.errors import InvalidEast, InvalidWest, NotALine
from lanekeepers.plans import bringing
from lanekeepers.values import is_count
from lanekeepers.ways import places_along
from lanekeepers.webs import check_web


def is_line(web):
    check_web(web)
    country = web.country
    return is_bounded(web) and all([len(country.neighbours(yard)) == 2 for yard in country.yards])


def stairs(web):
    check_web(web)
    check_line(web)
    told = yards_told(web)
    needs = [needs_of(told, first, last) for first, last in plugged_pairs(told)]
    # Of a pair of yards just these are least: with one cart less its sum is missed, or the need of one sense.
    pairs = {(east, total - east): True for least_east, least_west, total in needs
             for east in range(least_east, total - least_west + 1)}
    return sorted([(east, west) for east, west in pairs
                   if not is_enough_for_some(needs, east - 1, west) and not is_enough_for_some(needs, east, west - 1)])


def can_stick(web, east, west):
    check_line_and_carts(web, east, west)
    told = yards_told(web)
    return is_enough_for_some([needs_of(told, first, last) for first, last in plugged_pairs(told)], east, west)


def line_script(web, east, west):
    check_line_and_carts(web, east, west)
    told = yards_told(web)
    for first, last in plugged_pairs(told):
        if is_enough(needs_of(told, first, last), east, west):
            return bringing(web.country, sticking_carts(web, first, last, west))
    return None


def check_line(web):
    if not is_line(web):
        raise NotALine()


def check_line_and_carts(web, east, west):
    check_web(web)
    if not is_count(east):
        raise InvalidEast(east)
    if not is_count(west):
        raise InvalidWest(west)
    check_line(web)


def yards_told(web):
    """A tuple (places, bound towards the next one, bound towards the one before) for each yard of the line."""
    row = row_of(web.country)
    return [(places_at(web, yard), bound_towards(web, yard, ahead), bound_towards(web, yard, before))
            for before, yard, ahead in zip(row, row[1:], row[2:])]


def row_of(country):
    """All places of the line, in the sequence from the lesser gate on."""
    return places_along(country, country.gates[0], country.gates[1])


def plugged_pairs(told):
    """The pairs of positions of yards that are plugged towards each other, the nearest ones first."""
    ahead = [at for at, (places, onward, _) in enumerate(told) if onward == places]
    back = [at for at, (places, _, backward) in enumerate(told) if backward == places]
    spans = sorted([(last - first, first, last) for first in ahead for last in back if first < last])
    return [(first, last) for _, first, last in spans]


def needs_of(told, first, last):
    """With how many carts eastward, westward and in all the yards between these two are stuck, and they, too."""
    inner = told[first + 1:last]
    east = told[first][0] + sum([min(onward, places - backward) for places, onward, backward in inner])
    west = told[last][0] + sum([min(backward, places - onward) for places, onward, backward in inner])
    both_ways = sum([min(places, onward + backward) for places, onward, backward in inner])
    return east, west, told[first][0] + told[last][0] + both_ways


def is_enough(need, east, west):
    return need[0] <= east and need[1] <= west and need[2] <= east + west


def is_enough_for_some(needs, east, west):
    return any([is_enough(need, east, west) for need in needs])


def sticking_carts(web, first, last, west):
    """The carts of a stand that is stuck between the yards at these positions, with at most so many westward ones:
    in a sequence in which each can come to its place."""
    told = yards_told(web)
    low, *yards, high = row_of(web.country)
    westward, eastward = [], []
    for yard, (onward, backward) in zip(yards[first + 1:last], carts_between(told, first, last, west)):
        westward = westward + [(yard, high, low)] * backward
        # As no nearer pair can stick, some place is left in each of these yards for those that pass it:
        # so the carts for the last yard come first.
        eastward = [(yard, low, high)] * onward + eastward
    ends = [(yards[first], low, high)] * told[first][0] + [(yards[last], high, low)] * told[last][0]
    return westward + eastward + ends


def carts_between(told, first, last, west):
    """A tuple (eastward carts, westward carts) for each yard between these two: westward ones as many as can be."""
    spare = west - needs_of(told, first, last)[1]
    carts = []
    for places, onward, backward in told[first + 1:last]:
        in_all, least = min(places, onward + backward), min(backward, places - onward)
        more = min(spare, in_all - least - min(onward, places - backward))
        spare = spare - more
        carts.append((in_all - least - more, least + more))
    return carts
