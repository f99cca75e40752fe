"""How countries, books, webs, stands and steps are written."""

from lanekeepers.checks import check_book, check_country, check_country_and_yard
from lanekeepers.stands import check_stand
from lanekeepers.steps import check_steps
from lanekeepers.webs import check_web


def country_text(country):
    check_country(country)
    return ", ".join([f"{one}-{other}" for one, other in country.lanes])


def book_text(country, yard, book):
    check_country_and_yard(country, yard)
    check_book(country, yard, book)
    return written_book(book)


def web_text(web):
    check_web(web)
    return " | ".join([country_text(web.country)] + [written_book(book) for book in web.books])


def stand_text(web, stand):
    check_web(web)
    check_stand(web, stand)
    return written_carts(stand)


def steps_text(country, steps):
    check_country(country)
    check_steps(country, steps)
    return or_none(", ".join([written_step(step) for step in steps]))


def written_book(book):
    return "; ".join([", ".join([f"{places}"] + [written_bound(bound) for bound in bounds]) for places, bounds in book])


def written_bound(bound):
    origin, target, most = bound
    start = "" if origin is None else f"<{origin}"
    end = "" if target is None else f">{target}"
    return f"{most}{start}{end}"


def written_carts(carts):
    """The carts as a stand is written, whether or not they make one."""
    return or_none(", ".join([written_cart(cart) for cart in sorted(carts)]))


def written_cart(cart):
    yard, start, end = cart
    return f"{yard}:{start}>{end}"


def written_step(step):
    if step[0] == "in":
        return f"in {step[1]}>{step[2]}"
    return f"on {written_cart(step[1:])}"


def or_none(text):
    """The text of a row; - if there is nothing in it."""
    return "-" if text == "" else text
