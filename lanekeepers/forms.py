"""The forms of bounds, alternatives, books and loads of a yard, told by its sorted list of neighbours,
and which loads stand by them. Nothing here checks what it is passed as a load or a book to stand by."""

from lanekeepers.values import is_count, is_row

MOST_PLACES = 6
MOST_OF_A_BOUND = 6
MOST_BOUNDS = 6
MOST_ALTERNATIVES = 4


def is_among(around, value):
    return is_count(value) and value in around


def is_pair_of(around, origin, target):
    return is_among(around, origin) and is_among(around, target) and origin != target


def pairs_of(around):
    """The sorted list of the pairs of an origin and a target of carts in the yard."""
    return [(origin, target) for origin in around for target in around if origin != target]


def is_bound(around, value):
    if not isinstance(value, tuple) or len(value) != 3:
        return False
    origin, target, most = value
    if not is_count(most) or most > MOST_OF_A_BOUND:
        return False
    if origin is None:
        return is_among(around, target)
    if target is None:
        return is_among(around, origin)
    return is_pair_of(around, origin, target)


def is_alternative(around, value):
    if not isinstance(value, tuple) or len(value) != 2:
        return False
    places, bounds = value
    if not is_count(places) or not 1 <= places <= MOST_PLACES:
        return False
    return is_row(bounds) and len(bounds) <= MOST_BOUNDS and all([is_bound(around, bound) for bound in bounds])


def is_book_of(around, value):
    if not is_row(value) or not 1 <= len(value) <= MOST_ALTERNATIVES:
        return False
    if not all([is_alternative(around, alternative) for alternative in value]):
        return False
    return all([stands_in([(origin, target, 1)], value) for origin, target in pairs_of(around)])


def is_load_of(around, value):
    if not is_row(value) or not all([is_entry(around, entry) for entry in value]):
        return False
    pairs = [(origin, target) for origin, target, _ in value]
    return all([pairs[at] < pairs[at + 1] for at in range(len(pairs) - 1)])


def is_entry(around, value):
    """Whether any value may be one of the tuples of a load."""
    if not isinstance(value, tuple) or len(value) != 3:
        return False
    return is_pair_of(around, value[0], value[1]) and is_count(value[2]) and value[2] > 0


def carts_of(load, origin, target):
    """How many carts of the load have this origin and this target; None stands for any."""
    return sum([many for start, end, many in load if origin in (None, start) and target in (None, end)])


def keeps(load, bound):
    origin, target, most = bound
    return carts_of(load, origin, target) <= most


def stands_by(load, alternative):
    places, bounds = alternative
    return carts_of(load, None, None) <= places and all([keeps(load, bound) for bound in bounds])


def stands_in(load, book):
    return any([stands_by(load, alternative) for alternative in book])


def copied_book(book):
    """The book as it is told: lists of its own, of the tuples of the places and a list of the bounds."""
    return [(places, list(bounds)) for places, bounds in book]


def added(load, origin, target):
    """The load and one cart more."""
    more = carts_of(load, origin, target) + 1
    others = [entry for entry in load if (entry[0], entry[1]) != (origin, target)]
    return sorted(others + [(origin, target, more)])


def is_within(load, other):
    """Whether the load is at most the other one."""
    held = {(origin, target): many for origin, target, many in other}
    return all([many <= held.get((origin, target), 0) for origin, target, many in load])
