"""Deeds: what each of them keeps, and how states change by it."""

from lanekeepers.books import both, either
from lanekeepers.checks import check_yard
from lanekeepers.claims import check_claim
from lanekeepers.comings import emptied
from lanekeepers.countries import Country
from lanekeepers.doors import joined
from lanekeepers.errors import InvalidStand, NoneThere
from lanekeepers.mends import mended
from lanekeepers.plans import stuck_stand
from lanekeepers.scenes import claimed_parts, value_of, with_claim, with_thing, without_claim, without_thing
from lanekeepers.stands import is_stand
from lanekeepers.steps import after
from lanekeepers.turns import turned
from lanekeepers.webs import Web


def made_country(lanes):
    return Country(lanes)


def made_web(told):
    lanes, books = told
    return Web(Country(lanes), books)


def made_stand(web, carts):
    if not is_stand(web, carts):
        raise InvalidStand(carts)
    return sorted(carts)


def land_of(web):
    return web.country


def turned_web(web):
    return turned(web)


def joined_web(web, gate, other, door):
    return joined(web, gate, other, door)


def jam_of(web):
    stand = stuck_stand(web)
    if stand is None:
        raise NoneThere()
    return stand


def rest_of(web, stand):
    return emptied(web, stand)[1]


def with_book(web, yard, book):
    check_yard(web.country, yard)
    return Web(web.country, [book if other == yard else web.book(other) for other in web.country.yards])


def with_either(web, yard, book):
    return with_book(web, yard, either(web.country, yard, web.book(yard), book))


def with_both(web, yard, book):
    return with_book(web, yard, both(web.country, yard, web.book(yard), book))


def with_place(web, yard, target):
    return mended(web, [("place", yard, target)])


def with_bound(web, yard, target):
    return mended(web, [("bound", yard, target)])


def led_stand(stand, web, steps):
    return after(web, stand, steps)


# What is kept by each deed, made of what its line tells but of the name for it.
MAKERS = {
    "country": made_country, "web": made_web, "stand": made_stand, "land": land_of, "turned": turned_web,
    "join": joined_web, "jam": jam_of, "rest": rest_of, "book": with_book, "either": with_either, "both": with_both,
    "place": with_place, "bound": with_bound, "led": led_stand,
}


def scene_after(scene, words, kinds):
    """The scene behind the deed that these words tell, the names in which are as it wants them."""
    if words[0] == "drop":
        return without_thing(scene, words[1])
    if words[0] == "forget":
        return without_claim(scene, words[1])
    if words[0] == "claim":
        check_claim(claimed_parts(scene.things, words[2:]))
        return with_claim(scene, words[1], words[2:])
    make = MAKERS[words[0]]
    values = [value_of(scene.things, kind, part) for kind, part in zip(kinds, words[1:]) if kind != "NEW"]
    return with_thing(scene, words[1], make(*values))
