"""The plan: how carts come from the empty web to a stand in which they are stuck."""

from lanekeepers.forms import stands_in
from lanekeepers.posts import nearest
from lanekeepers.sides import told_witness
from lanekeepers.steps import MOST_CARTS, ends_stuck
from lanekeepers.ways import places_along
from lanekeepers.webs import check_web


def stuck_stand(web):
    check_web(web)
    pair = nearest(web)
    return None if pair is None else sorted(planned_carts(web, pair))


def stuck_script(web):
    check_web(web)
    pair = nearest(web)
    return None if pair is None else planned_steps(web, pair)


def shows_stuck(web, value):
    check_web(web)
    # Seven yards of six places each: there can never be more carts than this anyhow.
    return ends_stuck(web, value, MOST_CARTS)


def planned_steps(web, pair):
    """The steps of the plan for two plugged sides that face each other."""
    return bringing(web.country, planned_carts(web, pair))


def bringing(country, carts):
    """The steps that bring each of the carts from its gate all the way to its place, one cart at a time."""
    steps = []
    for yard, start, end in carts:
        steps.append(("in", start, end))
        for place in places_along(country, start, yard)[1:-1]:
            steps.append(("on", place, start, end))
    return steps


def planned_carts(web, pair):
    """The carts of the plan for two plugged sides that face each other, in their places, in the plan's sequence."""
    country = web.country
    (first, ahead), (last, back) = pair
    load, barred = told_witness(web, first, ahead)
    other_load, other_barred = told_witness(web, last, back)
    to_first, to_last = gates_beyond(country, first, barred)[0], gates_beyond(country, last, other_barred)[0]
    from_first, from_last = gates_by(country, first, last)[0], gates_by(country, last, first)[0]
    inner = places_along(country, first, last)
    back_carts, on_carts = [], []
    for at in range(1, len(inner) - 1):
        yard, before, behind = inner[at], inner[at - 1], inner[at + 1]
        many = most_beside(web.book(yard), [], behind, before)
        back_carts = back_carts + [(yard, from_last, to_first)] * many
        beside = most_beside(web.book(yard), [(behind, before, many)], before, behind)
        # The carts for the last yard come first: they still can pass through the ones ahead of it.
        on_carts = [(yard, from_first, to_last)] * beside + on_carts
    return back_carts + on_carts + placed(country, first, load, to_last) + placed(country, last, other_load, to_first)


def placed(country, yard, load, end):
    """The carts of a load of the yard: each from the least gate beyond its origin."""
    carts = []
    for origin, _, many in load:
        carts = carts + [(yard, gates_beyond(country, yard, origin)[0], end)] * many
    return carts


def gates_beyond(country, yard, near):
    """The sorted list of the gates to which the way from the yard goes on by this neighbour."""
    return [gate for gate in country.gates if country.ahead(yard, gate) == near]


def gates_by(country, yard, goal):
    """The sorted list of the gates whose way to the goal goes by the yard."""
    return [gate for gate in country.gates if yard in places_along(country, gate, goal)]


def most_beside(book, load, origin, target):
    """How many carts of a pair that the load does not have can stand beside it."""
    many = 0
    while stands_in(load + [(origin, target, many + 1)], book):
        many += 1
    return many
