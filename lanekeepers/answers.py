"""The answers to the commands that are no deeds."""

from lanekeepers.comings import can_all_come
from lanekeepers.countries import Country
from lanekeepers.doors import kind
from lanekeepers.few import fewest
from lanekeepers.posts import nearest, posts
from lanekeepers.scenes import told_states, value_of
from lanekeepers.sides import plugged_sides
from lanekeepers.stairs import can_stick
from lanekeepers.stands import lanes_left
from lanekeepers.steps import is_stuck, refused
from lanekeepers.texts import country_text, or_none, web_text, written_carts
from lanekeepers.ways import way
from lanekeepers.webs import Web


def shown(thing):
    if isinstance(thing, Country):
        return country_text(thing)
    return web_text(thing) if isinstance(thing, Web) else written_carts(thing)


def posts_told(web):
    return numbers_told(posts(web))


def sides_told(web):
    return or_none(",".join([f"{yard}>{target}" for yard, target in plugged_sides(web)]))


def nearest_told(web):
    pair = nearest(web)
    return "-" if pair is None else ",".join([f"{yard}>{target}" for yard, target in pair])


def fewest_told(web):
    least = fewest(web)
    return "none" if least is None else f"{least}"


def kind_told(web, gate):
    return kind(web, gate)


def all_told(web):
    return yes_or_no(can_all_come(web))


def stuck_told(web, stand):
    return yes_or_no(is_stuck(web, stand))


def sticks_told(web, east, west):
    return yes_or_no(can_stick(web, east, west))


def refused_told(web, stand):
    return written_carts(refused(web, stand))


def lanes_told(web, stand):
    return f"{lanes_left(web, stand)}"


def way_told(country, start, end):
    return numbers_told(way(country, start, end))


def same_told(thing, other):
    return yes_or_no(thing == other)


def yes_or_no(told):
    return "yes" if told else "no"


def numbers_told(numbers):
    return or_none(",".join([f"{number}" for number in numbers]))


# The answer to each command that is asked about things alone.
ANSWERS = {
    "show": shown, "posts": posts_told, "sides": sides_told, "nearest": nearest_told, "fewest": fewest_told,
    "kind": kind_told, "all": all_told, "stuck": stuck_told, "sticks": sticks_told, "refused": refused_told,
    "lanes": lanes_told, "way": way_told, "same": same_told,
}


def answer_of(scene, words, kinds):
    """The answer to the command that these words tell, the names and labels in which are as it wants them."""
    if words[0] == "state":
        return scene.states[words[1]]
    if words[0] == "states":
        return told_states(scene, list(scene.states))
    if words[0] == "claimed":
        return " ".join(scene.claims[words[1]])
    if words[0] == "names":
        return or_none(" ".join(sorted(list(scene.things))))
    answer = ANSWERS[words[0]]
    values = [value_of(scene.things, wanted, part) for wanted, part in zip(kinds, words[1:])]
    return answer(*values)
