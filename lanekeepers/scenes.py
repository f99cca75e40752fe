"""Scenes: what a desk keeps under names, and the claims that are noted there, each with its state."""

from lanekeepers.claims import is_claim, is_true
from lanekeepers.commands import CLAIMS, COUNTS, THINGS
from lanekeepers.countries import Country
from lanekeepers.scanning import told_by
from lanekeepers.texts import or_none
from lanekeepers.webs import Web


class Scene:
    """Things by their names, claims (the words of their lines) and states by their labels; it never changes."""

    def __init__(self, things, claims, states):
        self.things = things
        self.claims = claims
        self.states = states


def with_thing(scene, name, thing):
    return settled(scene, {**scene.things, name: thing}, name)


def without_thing(scene, name):
    return settled(scene, {other: scene.things[other] for other in scene.things if other != name}, name)


def settled(scene, things, name):
    """The scene with these things, of which just that of this name is another one."""
    states = {}
    for label in scene.claims:
        words = scene.claims[label]
        states[label] = state_of(things, words) if name in words[1:] else scene.states[label]
    return Scene(things, scene.claims, states)


def with_claim(scene, label, words):
    state = state_of(scene.things, words)
    return Scene(scene.things, {**scene.claims, label: words}, {**scene.states, label: state})


def without_claim(scene, label):
    claims = {other: scene.claims[other] for other in scene.claims if other != label}
    return Scene(scene.things, claims, {other: scene.states[other] for other in claims})


def state_of(things, words):
    claim = claim_now(things, words)
    if claim is None:
        return "gone"
    return "true" if is_true(claim) else "false"


def claim_now(things, words):
    """The claim that these words tell now; None while there is none."""
    kinds = CLAIMS[words[0]].split()
    if unknown_name(things, kinds, words[1:]) is not None:
        return None
    claim = claimed_parts(things, words)
    return claim if is_claim(claim) else None


def claimed_parts(things, words):
    """The tuple that these words tell, claim or not, if under its names is kept what it wants."""
    kinds = CLAIMS[words[0]].split()
    return (words[0],) + tuple([value_of(things, kind, part) for kind, part in zip(kinds, words[1:])])


def kind_of(thing):
    if isinstance(thing, Country):
        return "COUNTRY"
    return "WEB" if isinstance(thing, Web) else "STAND"


def unknown_name(things, kinds, parts):
    """The first of the parts under which nothing of the wanted kind is kept; None if there is none such."""
    ahead = ""
    for kind, part in zip(kinds, parts):
        if kind in THINGS:
            wanted = ahead if kind == "OTHER" else kind
            if part not in things or wanted not in ("NAME", kind_of(things[part])):
                return part
            ahead = kind_of(things[part])
    return None


def value_of(things, kind, part):
    """What a part of a command tells: what is kept under the name, a number, what is read of a text."""
    if kind in COUNTS:
        return int(part)
    if kind in THINGS:
        return new_thing(things[part])
    return told_by(kind, part)


def new_thing(thing):
    """The thing, as a list of its own if it is a stand."""
    return list(thing) if kind_of(thing) == "STAND" else thing


def changes(before, behind):
    """The labels whose state is another one behind a deed than before it, with their states."""
    labels = [label for label in behind.states if before.states.get(label, "") != behind.states[label]]
    return told_states(behind, labels)


def told_states(scene, labels):
    return or_none(", ".join([f"{label} {scene.states[label]}" for label in sorted(labels)]))
