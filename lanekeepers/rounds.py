"""Rounds: yards in a ring, and with how few carts they are stuck."""

from lanekeepers.errors import InvalidBackward, InvalidForward, InvalidPlaces
from lanekeepers.forms import MOST_PLACES
from lanekeepers.values import is_count, is_row

FEWEST_IN_A_ROUND = 3
MOST_IN_A_ROUND = 7


def round_fewest(places, forward, backward):
    return carts_in_all(round_stand(places, forward, backward))


def round_stand(places, forward, backward):
    check_round(places, forward, backward)
    found = [[(bound, 0) for bound in forward], [(0, bound) for bound in backward]]
    for first, last in round_pairs(places, forward, backward):
        found.append(stand_between(places, forward, backward, first, last))
    return min([(carts_in_all(stand), stand) for stand in found])[1]


def is_round_stuck(places, forward, backward, value):
    check_round(places, forward, backward)
    return is_round_stand(places, forward, backward, value) and is_stuck_round(places, forward, backward, value)


def check_round(places, forward, backward):
    if not is_row(places) or not FEWEST_IN_A_ROUND <= len(places) <= MOST_IN_A_ROUND:
        raise InvalidPlaces(places)
    if not all([is_count(many) and 1 <= many <= MOST_PLACES for many in places]):
        raise InvalidPlaces(places)
    if not are_round_bounds(places, forward):
        raise InvalidForward(forward)
    if not are_round_bounds(places, backward):
        raise InvalidBackward(backward)


def are_round_bounds(places, value):
    """Whether any value is a list of bounds for one sense, one for each yard."""
    if not is_row(value) or len(value) != len(places):
        return False
    return all([is_count(bound) and 1 <= bound <= most for bound, most in zip(value, places)])


def carts_in_all(stand):
    return sum([onward + back for onward, back in stand])


def round_pairs(places, forward, backward):
    """The pairs of two yards that can be full of forward carts, and of backward carts."""
    yards = range(len(places))
    return [(first, last) for first in yards for last in yards
            if first != last and forward[first] == places[first] and backward[last] == places[last]]


def stand_between(places, forward, backward, first, last):
    """The stuck stand between two such yards: each yard forward from the one to the other lets nobody in."""
    stand = [(0, 0) for _ in places]
    stand[first], stand[last] = (places[first], 0), (0, places[last])
    at = (first + 1) % len(places)
    while at != last:
        stand[at] = (forward[at], min(backward[at], places[at] - forward[at]))
        at = (at + 1) % len(places)
    return stand


def is_round_stand(places, forward, backward, value):
    if not is_row(value) or len(value) != len(places) or not all([is_pair_of_counts(pair) for pair in value]):
        return False
    return all([value[at][0] <= forward[at] and value[at][1] <= backward[at] and sum(value[at]) <= places[at]
                for at in range(len(places))])


def is_pair_of_counts(value):
    return isinstance(value, tuple) and len(value) == 2 and is_count(value[0]) and is_count(value[1])


def is_stuck_round(places, forward, backward, stand):
    if carts_in_all(stand) == 0:
        return False
    for at in range(len(places)):
        # Below the first yard comes the last one: the place at -1.
        ahead, back = (at + 1) % len(places), at - 1
        if stand[at][0] > 0 and sum(stand[ahead]) < places[ahead] and stand[ahead][0] < forward[ahead]:
            return False
        if stand[at][1] > 0 and sum(stand[back]) < places[back] and stand[back][1] < backward[back]:
            return False
    return True
