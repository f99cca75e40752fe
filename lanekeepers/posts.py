"""Posts, and plugged sides that face each other: whether carts can ever be stuck."""

from lanekeepers.checks import check_country, check_yard
from lanekeepers.errors import InvalidSide
from lanekeepers.sides import is_side_of, plugged_sides
from lanekeepers.ways import lanes_along
from lanekeepers.webs import check_web


def posts(web):
    check_web(web)
    return posts_among(web.country, plugged_sides(web))


def is_post(web, yard):
    check_web(web)
    check_yard(web.country, yard)
    return yard in posts_among(web.country, plugged_sides(web))


def can_be_stuck(web):
    check_web(web)
    return len(posts_among(web.country, plugged_sides(web))) == 0


def facing(web):
    check_web(web)
    return facing_among(web.country, plugged_sides(web))


def do_face(country, one, other):
    check_country(country)
    check_side(country, one)
    check_side(country, other)
    return are_facing(country, one, other)


def nearest(web):
    check_web(web)
    pairs = facing_among(web.country, plugged_sides(web))
    if len(pairs) == 0:
        return None
    return min([(lanes_along(web.country, one[0], other[0]), one, other) for one, other in pairs])[1:]


def check_side(country, side):
    if not is_side_of(country, side):
        raise InvalidSide(side)


def is_towards(country, side, yard):
    """Whether the way from the side's yard to this one goes on to the side's target."""
    return side[0] != yard and country.ahead(side[0], yard) == side[1]


def are_facing(country, one, other):
    return is_towards(country, one, other[0]) and is_towards(country, other, one[0])


def posts_among(country, sides):
    """The sorted list of the posts, if just these sides are plugged."""
    return [yard for yard in country.yards if not any([is_towards(country, side, yard) for side in sides])]


def facing_among(country, sides):
    """The sorted list of the pairs of these sides, which are sorted, that face each other."""
    return [(one, other) for one in sides for other in sides if one < other and are_facing(country, one, other)]
