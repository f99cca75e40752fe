"""What can come: how a stand is emptied, which stands scripts lead to, and steps from stand to stand."""

from lanekeepers.errors import NoPost
from lanekeepers.plans import stuck_stand
from lanekeepers.posts import can_be_stuck
from lanekeepers.stands import check_stand
from lanekeepers.steps import MOST_CARTS, are_steps, led_to, outcome
from lanekeepers.turns import turned, turned_carts, turned_steps
from lanekeepers.webs import check_web


def emptied(web, stand):
    check_web(web)
    check_stand(web, stand)
    return emptying(web, stand)


def can_all_come(web):
    check_web(web)
    return not can_be_stuck(turned(web))


def never_comes(web):
    check_web(web)
    stuck = stuck_stand(turned(web))
    return None if stuck is None else turned_carts(stuck)


def coming_script(web, stand):
    check_web(web)
    check_stand(web, stand)
    check_post(turned(web))
    return steps_to(web, stand)


def led_over(web, stand, other):
    check_web(web)
    check_stand(web, stand)
    check_stand(web, other)
    check_post(web)
    check_post(turned(web))
    return emptying(web, stand)[0] + steps_to(web, other)


def is_lead(web, stand, other, value):
    check_web(web)
    check_stand(web, stand)
    check_stand(web, other)
    return are_steps(web.country, value) and led_to(web, stand, value, MOST_CARTS) == sorted(other)


def check_post(web):
    if can_be_stuck(web):
        raise NoPost()


def emptying(web, stand):
    """The tuple of the steps by which the stand is emptied, and the stand that is left, unchecked."""
    steps, left = [], sorted(stand)
    step = first_on(web, left)
    while step is not None:
        steps.append(step)
        left = outcome(web, left, step)
        step = first_on(web, left)
    return steps, left


def first_on(web, stand):
    """The first step "on" that can be done in the told stand; None if there is none."""
    for cart in stand:
        if outcome(web, stand, ("on",) + cart) is not None:
            return ("on",) + cart
    return None


def steps_to(web, stand):
    """A script that leads to the stand, if the turned web has a post: the way out of the turned web, taken back."""
    return turned_steps(web.country, emptying(turned(web), turned_carts(stand))[0])
