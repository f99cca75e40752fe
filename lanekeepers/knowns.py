"""What books that are half known make sure: sides that can be plugged or free, verdicts, fillings."""

from lanekeepers.checks import check_country, check_yard, check_yard_ahead
from lanekeepers.errors import InvalidFilling, InvalidKnowns
from lanekeepers.forms import added, is_load_of, is_within, pairs_of
from lanekeepers.loads import pairs_towards, standing_loads
from lanekeepers.posts import facing_among, posts_among
from lanekeepers.seen import is_known_of, is_surely_let, is_surely_refused
from lanekeepers.sides import by_carts, sides_of
from lanekeepers.values import is_row

MOST_GREATEST = 100


def can_be_plugged(country, knowns, yard, target):
    return plugging(country, knowns, yard, target) is not None


def can_be_free(country, knowns, yard, target):
    return freeing(country, knowns, yard, target) is not None


def plugging(country, knowns, yard, target):
    check_knowns_and_side(country, knowns, yard, target)
    return told_plugging(country, known_at(country, knowns, yard), yard, target)


def freeing(country, knowns, yard, target):
    check_knowns_and_side(country, knowns, yard, target)
    return told_freeing(country, known_at(country, knowns, yard), yard, target)


def verdict(country, knowns):
    check_country(country)
    check_knowns(country, knowns)
    if len(posts_among(country, sides_that_plug(country, knowns))) > 0:
        return "never"
    return "can" if len(posts_among(country, sides_never_free(country, knowns))) == 0 else "open"


def fillings(country, knowns):
    check_country(country)
    check_knowns(country, knowns)
    return never_filling(country, knowns), stuck_filling(country, knowns)


def is_filling(country, knowns, value):
    check_country(country)
    check_knowns(country, knowns)
    if not is_row(value) or len(value) != len(knowns):
        return False
    return all([is_filling_that_fits(country.neighbours(yard), known, loads)
                for yard, known, loads in zip(country.yards, knowns, value)])


def filled_posts(country, filling):
    check_country(country)
    if not is_small_filling(country, filling):
        raise InvalidFilling(filling)
    by_yard = {yard: loads for yard, loads in zip(country.yards, filling)}
    plugged = [(yard, target) for yard, target in sides_of(country)
               if is_plugged_by(country.neighbours(yard), by_yard[yard], target)]
    return posts_among(country, plugged)


def check_knowns(country, knowns):
    yards = country.yards
    if not is_row(knowns) or len(knowns) != len(yards):
        raise InvalidKnowns(knowns)
    if not all([is_known_of(country.neighbours(yard), known) for yard, known in zip(yards, knowns)]):
        raise InvalidKnowns(knowns)


def check_knowns_and_side(country, knowns, yard, target):
    check_country(country)
    check_knowns(country, knowns)
    check_yard(country, yard)
    check_yard_ahead(country, yard, target)


def known_at(country, knowns, yard):
    return knowns[country.yards.index(yard)]


def told_plugging(country, known, yard, target):
    """The told load and neighbour by which the side can be plugged, unchecked; None if it can't."""
    others = [near for near in country.neighbours(yard) if near != target]
    loads = standing_loads([(known[0], [])], pairs_towards(country, yard, target))
    for many, load in by_carts(loads):
        if many > 0 and not is_surely_refused(known, load):
            for barred in others:
                if not is_surely_let(known, added(load, target, barred)):
                    return load, barred
    return None


def told_freeing(country, known, yard, target):
    """The least filling of the yard by which the side is free, unchecked; None if it can't be."""
    around = country.neighbours(yard)
    sure = sure_loads(around, known)
    # A load that is at most another one keeps out no more: so the greatest ones decide.
    let_in = [added(load, target, near) for load in parts_towards(sure, target) for near in around if near != target]
    if any([is_surely_refused(known, load) for load in let_in]):
        return None
    return greatest_among(sure + let_in)


def sides_that_plug(country, knowns):
    """The sorted list of the sides that can be plugged."""
    return [(yard, target) for yard, target in sides_of(country)
            if told_plugging(country, known_at(country, knowns, yard), yard, target) is not None]


def sides_never_free(country, knowns):
    """The sorted list of the sides that can't be free."""
    return [(yard, target) for yard, target in sides_of(country)
            if told_freeing(country, known_at(country, knowns, yard), yard, target) is None]


def never_filling(country, knowns):
    """A filling in which the carts are never stuck; None if there is none."""
    goals = posts_among(country, sides_never_free(country, knowns))
    if len(goals) == 0:
        return None
    told = []
    for yard, known in zip(country.yards, knowns):
        if yard == goals[0]:
            told.append(greatest_among(sure_loads(country.neighbours(yard), known)))
        else:
            told.append(told_freeing(country, known, yard, country.ahead(yard, goals[0])))
    return told


def stuck_filling(country, knowns):
    """A filling in which the carts can be stuck; None if there is none."""
    pairs = facing_among(country, sides_that_plug(country, knowns))
    if len(pairs) == 0:
        return None
    targets = {yard: target for yard, target in pairs[0]}
    told = []
    for yard, known in zip(country.yards, knowns):
        loads = sure_loads(country.neighbours(yard), known)
        if yard in targets:
            loads.append(told_plugging(country, known, yard, targets[yard])[0])
        told.append(greatest_among(loads))
    return told


def single_carts(around):
    return [[(origin, target, 1)] for origin, target in pairs_of(around)]


def sure_loads(around, known):
    """Loads such that just what is at most one of them is surely let."""
    return single_carts(around) + [list(load) for load in known[1]]


def parts_towards(loads, target):
    """What each of the loads has of carts of this target, where it has some."""
    parts = [[entry for entry in load if entry[1] == target] for load in loads]
    return [part for part in parts if len(part) > 0]


def greatest_among(loads):
    """The sorted list of those of the loads that are at most no other one, each once."""
    told = []
    for load in loads:
        if not stands_in_filling(told, load):
            told = [other for other in told if not is_within(other, load)] + [load]
    return sorted(told)


def stands_in_filling(filling, load):
    return any([is_within(load, other) for other in filling])


def is_filling_of(around, value):
    """Whether any value is a filling of the yard with these neighbours."""
    if not is_row(value) or not all([is_load_of(around, load) for load in value]):
        return False
    loads = [list(load) for load in value]
    if not all([loads[at] < loads[at + 1] for at in range(len(loads) - 1)]):
        return False
    # None is like another one, so each is at most one of the filling: itself.
    return all([len([other for other in loads if is_within(load, other)]) == 1 for load in loads])


def has_single_carts(around, filling):
    return all([stands_in_filling(filling, load) for load in single_carts(around)])


def is_filling_that_fits(around, known, value):
    """Whether any value is a filling of the yard that fits the known."""
    if not is_filling_of(around, value) or any([is_surely_refused(known, load) for load in value]):
        return False
    return all([stands_in_filling(value, load) for load in sure_loads(around, known)])


def is_small_filling(country, value):
    """Whether any value is a list of fillings of at most 100 loads, by which each single cart stands."""
    if not is_row(value) or len(value) != len(country.yards):
        return False
    for yard, loads in zip(country.yards, value):
        around = country.neighbours(yard)
        if not is_filling_of(around, loads) or len(loads) > MOST_GREATEST or not has_single_carts(around, loads):
            return False
    return True


def is_plugged_by(around, filling, target):
    """Whether the side of the yard is plugged by what stands in its filling."""
    # A load that is at most another one keeps out no more: so the greatest ones decide.
    return not all([stands_in_filling(filling, added(load, target, near))
                    for load in parts_towards(filling, target) for near in around if near != target])
