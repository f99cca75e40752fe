"""Papers: what shows that a claim is true. Nothing here checks what it is passed as a claim."""

from lanekeepers.comings import first_on
from lanekeepers.few import fewest_script, is_few_script, sums
from lanekeepers.forms import carts_of, is_load_of, keeps, stands_by
from lanekeepers.loads import heaviest
from lanekeepers.posts import facing, nearest, posts
from lanekeepers.sides import is_plugged, is_side_of, is_witness, witness
from lanekeepers.steps import is_step_of, outcome, what_bars
from lanekeepers.turns import turned
from lanekeepers.values import is_count, is_row


def told_paper(claim):
    """A paper of the claim, which is true; None if its kind has none."""
    word, web = claim[0], claim[1]
    if word == "never":
        return posts(web)[0]
    if word == "can":
        return nearest(web)
    if word == "allcome":
        return posts(turned(web))[0]
    if word == "notall":
        return nearest(turned(web))
    if word == "plugged":
        return witness(web, claim[2], claim[3])
    if word == "free":
        return heaviest(web, claim[2], claim[3])
    if word == "few":
        return fewest_script(web)
    if word == "more":
        return sums(web)
    if word == "stands":
        return [at for at, alternative in enumerate(web.book(claim[2])) if stands_by(claim[3], alternative)][0]
    if word == "barred":
        return [what_bars(claim[3], alternative) for alternative in web.book(claim[2])]
    return first_on(web, sorted(claim[2])) if word == "moves" else None


def is_paper_for(claim, value):
    """Whether any value is a paper of the claim."""
    word, web = claim[0], claim[1]
    if word == "never":
        return is_count(value) and value in posts(web)
    if word == "can":
        return are_facing_sides(web, value)
    if word == "allcome":
        return is_count(value) and value in posts(turned(web))
    if word == "notall":
        return are_facing_sides(turned(web), value)
    if word == "plugged":
        return is_witness(web, claim[2], claim[3], value)
    if word == "free":
        # The heaviest loads of a plugged side are told by a like list: it shows just that the side is plugged.
        return not is_plugged(web, claim[2], claim[3]) and are_heaviest(web, claim[2], claim[3], value)
    if word == "few":
        return is_few_script(web, claim[2], value)
    if word == "more":
        return are_sums_above(web, claim[2], value)
    if word == "stands":
        return is_position_of_standing(web.book(claim[2]), claim[3], value)
    if word == "barred":
        return are_bars(web.book(claim[2]), claim[3], value)
    return word == "moves" and is_step_that_can_be_done(web, claim[2], value)


def are_facing_sides(web, value):
    """Whether any value is a tuple of two plugged sides that face each other, in any sequence."""
    if not isinstance(value, tuple) or len(value) != 2 or not all([is_side_of(web.country, side) for side in value]):
        return False
    return tuple(sorted(value)) in facing(web)


def are_heaviest(web, yard, target, value):
    """Whether any value is a list of the heaviest loads of the side, each once, in any sequence."""
    around = web.country.neighbours(yard)
    if not is_row(value) or not all([is_load_of(around, load) for load in value]):
        return False
    return sorted([list(load) for load in value]) == heaviest(web, yard, target)


def are_sums_above(web, many, value):
    """Whether any value is a list of the sums of all facing pairs, in any sequence, all of which are above it."""
    if not is_row(value) or not all([is_sum_of_sides(web.country, told) for told in value]):
        return False
    return sorted(value) == sums(web) and all([total > many for total, _, _ in value])


def is_sum_of_sides(country, value):
    if not isinstance(value, tuple) or len(value) != 3:
        return False
    return is_count(value[0]) and is_side_of(country, value[1]) and is_side_of(country, value[2])


def is_position_of_standing(book, load, value):
    return is_count(value) and value < len(book) and stands_by(load, book[value])


def are_bars(book, load, value):
    """Whether any value is a list of what bars the load, for each alternative of the book."""
    if not is_row(value) or len(value) != len(book):
        return False
    return all([is_bar(alternative, load, told) for alternative, told in zip(book, value)])


def is_bar(alternative, load, value):
    places, bounds = alternative
    if value is None:
        return carts_of(load, None, None) > places
    return is_count(value) and value < len(bounds) and not keeps(load, bounds[value])


def is_step_that_can_be_done(web, stand, value):
    return is_step_of(web.country, value) and value[0] == "on" and outcome(web, stand, value) is not None
