"""With how few carts a bounded web can be stuck."""

from lanekeepers.bounds import bound_towards, check_bounded, places_at
from lanekeepers.checks import check_many
from lanekeepers.plans import planned_carts, planned_steps
from lanekeepers.posts import facing
from lanekeepers.steps import MOST_CARTS, ends_stuck
from lanekeepers.ways import places_along
from lanekeepers.webs import check_web


def sums(web):
    check_web(web)
    check_bounded(web)
    return sorted([(sum_of(web, one[0], other[0]), one, other) for one, other in facing(web)])


def fewest(web):
    told = sums(web)
    return told[0][0] if len(told) > 0 else None


def fewest_script(web):
    told = sums(web)
    return planned_steps(web, told[0][1:]) if len(told) > 0 else None


def fewest_stand(web):
    told = sums(web)
    return sorted(planned_carts(web, told[0][1:])) if len(told) > 0 else None


def is_few_script(web, many, value):
    check_web(web)
    check_many(many, MOST_CARTS)
    check_bounded(web)
    return ends_stuck(web, value, many)


def sum_of(web, yard, other):
    """The sum of two facing plugged sides of a bounded web, told by their yards."""
    inner = places_along(web.country, yard, other)
    total = places_at(web, yard) + places_at(web, other)
    for at in range(1, len(inner) - 1):
        both_ways = bound_towards(web, inner[at], inner[at - 1]) + bound_towards(web, inner[at], inner[at + 1])
        total = total + min(places_at(web, inner[at]), both_ways)
    return total
