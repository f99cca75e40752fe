"""The desk: things under names, claims under labels, and the deeds by which they come and go."""

from lanekeepers.claims import contrary, is_paper_of
from lanekeepers.commands import is_deed
from lanekeepers.errors import InvalidLines, InvalidPaper, UnknownLabel, UnknownName
from lanekeepers.ledgers import all_carried_out, carried_out, empty_ledger, with_paper
from lanekeepers.scenes import claim_now, new_thing
from lanekeepers.values import copied, is_row


class Desk:
    """A desk has one ledger at a time, which never changes: so what was so ahead can be so again at once."""

    def __init__(self):
        self.ledger = empty_ledger()

    @property
    def names(self):
        return sorted(list(self.ledger.scene.things))

    @property
    def labels(self):
        return sorted(list(self.ledger.scene.claims))

    def __len__(self):
        return len(self.ledger.done)

    def __getitem__(self, at):
        if not is_key_of(self.ledger.scene.things, at):
            raise UnknownName(at)
        return new_thing(self.ledger.scene.things[at])

    def __contains__(self, x):
        return is_key_of(self.ledger.scene.things, x)

    def __iter__(self):
        raise TypeError("a desk is not iterated over")

    def __call__(self, command):
        return self.do(command)

    def claim_of(self, label):
        check_label(self, label)
        return claim_at(self, label)

    def do(self, command):
        answer, ledger = carried_out(self.ledger, command)
        self.ledger = ledger
        return answer

    def do_all(self, *commands):
        answers, ledger = all_carried_out(self.ledger, commands)
        self.ledger = ledger
        return answers

    def attempt(self, *commands):
        answers, _ = all_carried_out(self.ledger, commands)
        return answers

    def attach(self, label, paper):
        check_label(self, label)
        claim = claim_at(self, label)
        if claim is None:
            raise InvalidPaper(paper)
        other = contrary(claim)
        if is_paper_of(claim, paper):
            shown = claim[0]
        elif is_paper_of(other, paper):
            shown = other[0]
        else:
            raise InvalidPaper(paper)
        self.ledger = with_paper(self.ledger, label, (words_at(self, label), shown, copied(paper)))

    def fits(self, label):
        check_label(self, label)
        claim = claim_at(self, label)
        if claim is None or label not in self.ledger.papers:
            return False
        words, shown, paper = self.ledger.papers[label]
        if words != words_at(self, label):
            return False
        return is_paper_of(claim if shown == claim[0] else contrary(claim), paper)

    def lines(self):
        return [line for line, _ in self.ledger.done]

    def copy(self):
        desk = Desk()
        desk.ledger = self.ledger
        return desk

    @classmethod
    def again(cls, lines):
        check_lines(lines)
        desk = cls()
        desk.do_all(*lines)
        return desk


class Trial:
    """Behind a block all of the desk is as it was ahead of it."""

    def __init__(self, desk):
        self.desk = desk
        self.before = desk.ledger

    def __enter__(self):
        self.before = self.desk.ledger
        return self.desk

    def __exit__(self, kind, value, trace):
        desk = self.desk
        desk.ledger = self.before


def tried(desk, action):
    with Trial(desk) as held:
        return action(held)


def is_key_of(table, value):
    """Whether any value is one of the names, or labels, of the table."""
    return isinstance(value, str) and value in table


def check_label(desk, label):
    if not is_key_of(desk.ledger.scene.claims, label):
        raise UnknownLabel(label)


def check_lines(lines):
    if not is_row(lines):
        raise InvalidLines(None)
    for position, line in enumerate(lines):
        if not is_deed(line):
            raise InvalidLines(position)


def words_at(desk, label):
    """The words of the claim that is noted under the label."""
    return desk.ledger.scene.claims[label]


def claim_at(desk, label):
    """The claim that is noted under the label, as a tuple; None while its state is gone."""
    return claim_now(desk.ledger.scene.things, words_at(desk, label))
