"""Ledgers: all that a desk has at a time, and what a command makes of it."""

from lanekeepers.answers import answer_of
from lanekeepers.commands import DEEDS, is_command, kinds_behind
from lanekeepers.deeds import scene_after
from lanekeepers.errors import CommandFailed, InvalidCommand, LabelTaken, LaneError, LimitError, MissingError, NameTaken
from lanekeepers.errors import NothingToRedo, NothingToUndo, StateError, TooMany, UnknownLabel, UnknownName
from lanekeepers.scenes import Scene, changes, unknown_name

MOST_NAMES = 12
MOST_LABELS = 12
MOST_DEEDS = 300


class Ledger:
    """A scene; the deeds that can be taken back, each a tuple of its line and the scene before it; those that can be
    done again, each with the scene behind it; papers by their labels. It never changes."""

    def __init__(self, scene, done, undone, papers):
        self.scene = scene
        self.done = done
        self.undone = undone
        self.papers = papers


def empty_ledger():
    return Ledger(Scene({}, {}, {}), [], [], {})


def with_paper(ledger, label, paper):
    return Ledger(ledger.scene, ledger.done, ledger.undone, {**ledger.papers, label: paper})


def carried_out(ledger, command):
    """The tuple of the answer to the command, and the ledger behind it."""
    if not is_command(command):
        raise InvalidCommand(command)
    words = command.split(" ")
    kinds = kinds_behind(words)
    check_names(ledger.scene, kinds, words[1:])
    if words[0] == "undo":
        return taken_back(ledger)
    if words[0] == "redo":
        return done_again(ledger)
    if words[0] not in DEEDS:
        return answer_of(ledger.scene, words, kinds), ledger
    scene = scene_after(ledger.scene, words, kinds)
    done = ledger.done + [(command, ledger.scene)]
    check_limits(scene, done)
    return changes(ledger.scene, scene), Ledger(scene, done, [], ledger.papers)


def all_carried_out(ledger, commands):
    """The tuple of the list of the answers to the commands, and the ledger behind them."""
    answers = []
    for position, command in enumerate(commands):
        try:
            answer, ledger = carried_out(ledger, command)
        except (LaneError, MissingError, StateError, LimitError) as error:
            raise CommandFailed(position) from error
        answers.append(answer)
    return answers, ledger


def check_names(scene, kinds, parts):
    """The names and labels of a command are there, or are still free, as it wants them."""
    for kind, part in zip(kinds, parts):
        if kind == "NEW" and part in scene.things:
            raise NameTaken(part)
        if kind == "FRESH" and part in scene.claims:
            raise LabelTaken(part)
    unknown = unknown_name(scene.things, kinds, parts)
    if unknown is not None:
        raise UnknownName(unknown)
    for kind, part in zip(kinds, parts):
        if kind == "LABEL" and part not in scene.claims:
            raise UnknownLabel(part)


def check_limits(scene, done):
    if len(scene.things) > MOST_NAMES:
        raise TooMany("names", MOST_NAMES)
    if len(scene.claims) > MOST_LABELS:
        raise TooMany("labels", MOST_LABELS)
    if len(done) > MOST_DEEDS:
        raise TooMany("deeds", MOST_DEEDS)


def taken_back(ledger):
    if len(ledger.done) == 0:
        raise NothingToUndo()
    line, scene = ledger.done[-1]
    return line, Ledger(scene, ledger.done[:-1], ledger.undone + [(line, ledger.scene)], ledger.papers)


def done_again(ledger):
    if len(ledger.undone) == 0:
        raise NothingToRedo()
    line, scene = ledger.undone[-1]
    return line, Ledger(scene, ledger.done + [(line, ledger.scene)], ledger.undone[:-1], ledger.papers)
