"""Claims, their contraries, and the papers that show that they are true."""

from lanekeepers.bounds import is_bounded
from lanekeepers.comings import can_all_come, first_on
from lanekeepers.countries import is_yard
from lanekeepers.errors import InvalidClaim
from lanekeepers.few import fewest
from lanekeepers.forms import is_load_of
from lanekeepers.loads import lets
from lanekeepers.papers import is_paper_for, told_paper
from lanekeepers.posts import can_be_stuck
from lanekeepers.sides import is_plugged, is_side_of
from lanekeepers.stands import is_stand_of
from lanekeepers.values import copied, is_count
from lanekeepers.webs import Web

MOST_CLAIMED = 40
ROWS = (("never", "can"), ("allcome", "notall"), ("plugged", "free"),
        ("few", "more"), ("stands", "barred"), ("moves", "stuck"))


def words():
    return list(ROWS)


def is_claim(value):
    if not isinstance(value, tuple) or len(value) < 2:
        return False
    rows = [row for row in ROWS if value[0] in row]
    return len(rows) > 0 and isinstance(value[1], Web) and are_parts(rows[0][0], value[1], value[2:])


def is_true(claim):
    check_claim(claim)
    return holds(claim) if is_first(claim[0]) else not holds(with_contrary_word(claim))


def contrary(claim):
    check_claim(claim)
    return copied(with_contrary_word(claim))


def paper_of(claim):
    return told_paper(claim) if is_true(claim) else None


def is_paper_of(claim, value):
    check_claim(claim)
    return is_paper_for(claim, value)


def check_claim(claim):
    if not is_claim(claim):
        raise InvalidClaim(claim)


def is_first(word):
    return word in [first for first, _ in ROWS]


def with_contrary_word(claim):
    one, other = [row for row in ROWS if claim[0] in row][0]
    return (other if claim[0] == one else one,) + claim[1:]


def are_parts(first, web, parts):
    """Whether these values may stand behind the web in a claim of the row that begins with this word."""
    country = web.country
    if first in ("never", "allcome"):
        return len(parts) == 0
    if first == "plugged":
        return is_side_of(country, parts)
    if first == "few":
        return len(parts) == 1 and is_bounded(web) and is_count(parts[0]) and parts[0] <= MOST_CLAIMED
    if first == "stands":
        return len(parts) == 2 and is_yard(country, parts[0]) and is_load_of(country.neighbours(parts[0]), parts[1])
    return len(parts) == 1 and is_stand_of(web, parts[0]) and len(parts[0]) > 0


def holds(claim):
    """Whether a claim with the first word of a row is true."""
    word, web = claim[0], claim[1]
    if word == "never":
        return not can_be_stuck(web)
    if word == "allcome":
        return can_all_come(web)
    if word == "plugged":
        return is_plugged(web, claim[2], claim[3])
    if word == "few":
        least = fewest(web)
        return least is not None and least <= claim[2]
    if word == "stands":
        return lets(web, claim[2], claim[3])
    return first_on(web, claim[2]) is not None
