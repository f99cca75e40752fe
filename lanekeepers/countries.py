"""Countries: trees of places, told by their lanes."""

from lanekeepers.errors import InvalidLanes, InvalidPlace
from lanekeepers.values import is_count, is_row

MOST_LANES_AT_A_PLACE = 4
MOST_YARDS = 7


class Country:
    """A tree of yards and gates; it never changes."""

    def __init__(self, lanes):
        if not are_lanes(lanes):
            raise InvalidLanes(lanes)
        self._lanes = sorted([(min(pair[0], pair[1]), max(pair[0], pair[1])) for pair in lanes])
        self._around = neighbours_by_place(self._lanes)
        self._ahead = {goal: places_ahead(self._around, goal) for goal in self._around}
        self._yards = yards_among(self._around)
        self._gates = [place for place in self._around if len(self._around[place]) == 1]

    @property
    def lanes(self):
        return list(self._lanes)

    @property
    def yards(self):
        return list(self._yards)

    @property
    def gates(self):
        return list(self._gates)

    def neighbours(self, place):
        if not is_place(self, place):
            raise InvalidPlace(place)
        return list(self._around[place])

    def ahead(self, place, goal):
        """The place behind the place on the way to the goal: two unlike places, unchecked."""
        return self._ahead[goal][place]

    def __eq__(self, other):
        return isinstance(other, Country) and self._lanes == other._lanes


def is_place(country, value):
    return is_count(value) and value <= len(country.lanes)


def is_yard(country, value):
    return is_count(value) and value in country.yards


def is_gate(country, value):
    return is_count(value) and value in country.gates


def is_neighbour(country, place, value):
    """Whether any value is a neighbour of the place, which is one."""
    return is_count(value) and value in country.neighbours(place)


def are_lanes(value):
    """Whether any value is a list of the lanes of a country, each told once."""
    if not is_row(value) or not all([is_pair_up_to(pair, len(value)) for pair in value]):
        return False
    around = neighbours_by_place(value)
    # With a place more than lanes, all places are reached only if each lane leads to a new one:
    # so no lane is told twice, none leads back to its own place, and there is no circle.
    if len(places_ahead(around, 0)) < len(value):
        return False
    if max([len(around[place]) for place in around]) > MOST_LANES_AT_A_PLACE:
        return False
    return 1 <= len(yards_among(around)) <= MOST_YARDS


def is_pair_up_to(value, last):
    """Whether any value is a pair of places, none of them above the last one."""
    return is_row(value) and len(value) == 2 and all([is_count(place) and place <= last for place in value])


def neighbours_by_place(lanes):
    """A dict of the sorted list of the neighbours of each place, in the sequence of the places."""
    around = {place: [] for place in range(len(lanes) + 1)}
    for one, other in lanes:
        around[one].append(other)
        around[other].append(one)
    return {place: sorted(around[place]) for place in around}


def yards_among(around):
    return [place for place in around if len(around[place]) > 1]


def places_ahead(around, goal):
    """A dict that has, for each place from which the goal is reached, the place to go to next; not for the goal."""
    ahead = {}
    waiting = [goal]
    while waiting:
        here = waiting.pop()
        for near in around[here]:
            if near != goal and near not in ahead:
                ahead[near] = here
                waiting.append(near)
    return ahead
