"""Steps of carts: which can be done, what comes of them, who is refused and why."""

from lanekeepers.checks import check_country, check_many
from lanekeepers.errors import InvalidCart, InvalidStep, InvalidSteps, NoCart, Refused, StepFails
from lanekeepers.forms import carts_of, keeps, stands_in
from lanekeepers.stands import are_unlike_gates, check_stand, is_cart_of, load_of
from lanekeepers.values import is_row
from lanekeepers.webs import check_web

MOST_STEPS = 400
MOST_CARTS = 42


def is_step(country, value):
    check_country(country)
    return is_step_of(country, value)


def can_step(web, stand, step):
    check_web(web)
    check_stand(web, stand)
    check_step(web, step)
    return outcome(web, stand, step) is not None


def stepped(web, stand, step):
    check_web(web)
    check_stand(web, stand)
    check_step(web, step)
    if step[0] == "on" and step[1:] not in stand:
        raise NoCart(step[1:])
    told = outcome(web, stand, step)
    if told is None:
        raise Refused()
    return told


def after(web, stand, steps):
    check_web(web)
    check_stand(web, stand)
    check_steps(web.country, steps)
    told = sorted(stand)
    for position, step in enumerate(steps):
        told = outcome(web, told, step)
        if told is None:
            raise StepFails(position)
    return told


def refused(web, stand):
    check_web(web)
    check_stand(web, stand)
    return refused_carts(web, stand)


def is_stuck(web, stand):
    check_web(web)
    check_stand(web, stand)
    return is_stuck_stand(web, stand)


def why_refused(web, stand, cart):
    check_web(web)
    check_stand(web, stand)
    if not is_cart_of(web.country, cart) or cart not in refused_carts(web, stand):
        raise InvalidCart(cart)
    yard, start, end = cart
    wanted = web.country.ahead(yard, end)
    load = load_of(web.country, list(stand) + [(wanted, start, end)], wanted)
    return [what_bars(load, alternative) for alternative in web.book(wanted)]


def is_script(web, value, many):
    check_web(web)
    check_many(many, MOST_CARTS)
    return are_steps(web.country, value) and led_to(web, [], value, many) is not None


def check_step(web, step):
    if not is_step_of(web.country, step):
        raise InvalidStep(step)


def check_steps(country, steps):
    if not are_steps(country, steps):
        raise InvalidSteps(steps)


def is_step_of(country, value):
    if not isinstance(value, tuple):
        return False
    if len(value) == 3:
        return value[0] == "in" and are_unlike_gates(country, value[1], value[2])
    return len(value) == 4 and value[0] == "on" and is_cart_of(country, value[1:])


def are_steps(country, value):
    """Whether any value is a list of at most 400 steps, whether or not they can be done."""
    return is_row(value) and len(value) <= MOST_STEPS and all([is_step_of(country, step) for step in value])


def outcome(web, stand, step):
    """The told stand that comes of the step, unchecked; None if it can't be done."""
    if step[0] == "in":
        _, start, end = step
        return with_newcomer(web, stand, (web.country.neighbours(start)[0], start, end))
    _, yard, start, end = step
    carts = list(stand)
    if (yard, start, end) not in carts:
        return None
    carts.remove((yard, start, end))
    wanted = web.country.ahead(yard, end)
    if wanted == end:
        return sorted(carts)
    return with_newcomer(web, carts, (wanted, start, end))


def led_to(web, stand, steps, many):
    """The told stand that the steps lead to; None if one can't be done, or leaves more than many carts."""
    told = sorted(stand)
    for step in steps:
        told = outcome(web, told, step)
        if told is None or len(told) > many:
            return None
    return told


def is_stuck_stand(web, stand):
    return len(stand) > 0 and all([outcome(web, stand, ("on",) + cart) is None for cart in stand])


def ends_stuck(web, value, many):
    """Whether any value is a script that ends stuck, and never lets more than many carts stand."""
    if not are_steps(web.country, value):
        return False
    told = led_to(web, [], value, many)
    return told is not None and is_stuck_stand(web, told)


def with_newcomer(web, carts, cart):
    """The told stand with the cart come to its yard; None if the keeper there doesn't let it in."""
    told = sorted(list(carts) + [cart])
    return told if stands_in(load_of(web.country, told, cart[0]), web.book(cart[0])) else None


def refused_carts(web, stand):
    """The sorted list of the refused carts, alike ones once, unchecked."""
    told = []
    for cart in sorted(stand):
        if cart not in told and outcome(web, stand, ("on",) + cart) is None:
            told.append(cart)
    return told


def what_bars(load, alternative):
    """None if the alternative's places bar the load, else the position of the first bound that does."""
    places, bounds = alternative
    if carts_of(load, None, None) > places:
        return None
    return [position for position, bound in enumerate(bounds) if not keeps(load, bound)][0]
