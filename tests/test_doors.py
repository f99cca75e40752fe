import itertools
import random
import unittest

from helpers import FULL, LINE, ODD, ODD_LISTS, SHORT, STAR, Case, random_book, random_country, random_web, slow_sides
from helpers import slow_posts, slow_way, slow_witnesses
from lanekeepers.countries import Country
from lanekeepers.doors import are_never_stuck, clear_doors, joined, kind, parting
from lanekeepers.errors import InvalidDoor, InvalidGate, InvalidGates, InvalidKind, InvalidWeb, TooMany
from lanekeepers.posts import can_be_stuck, posts
from lanekeepers.webs import Web
from wrong import NO_WEB, PLAIN_ROW

PLAIN = [(2, [])]
ROW = Country([(0, 1), (1, 2), (2, 3)])
FULL_ONE, EASY, BOTH = Web(SHORT, [PLAIN]), Web(SHORT, [[(2, [(None, 2, 1)])]]), Web(ROW, [PLAIN, PLAIN])
KINDS = ["clear", "own", "bad"]
# Of LINE and its gates 0 and 4.
NO_GATE = ODD + ODD_LISTS + [1, 2, 3, 5]
# The yards 1, 5, 3 in a row from the gate 0 to the gate 4; the gates 2 and 6 besides.
MIXED = Web(Country([(0, 1), (1, 5), (5, 3), (3, 4), (5, 2), (1, 6)]),
            [[(2, [(0, 5, 1), (6, None, 2)])], [(3, [(None, 4, 1)]), (1, [])], [(1, [(2, 3, 1), (1, None, 1)])]])


def kept_web(chance, most):
    """A web of at most so many yards, most of whose keepers keep some place free in most senses."""
    country = random_country(chance)
    while len(country.yards) > most:
        country = random_country(chance)
    books = []
    for yard in country.yards:
        around, places = country.neighbours(yard), chance.randint(2, 3)
        bounds = [(None, near, chance.randint(1, places - 1)) for near in around if chance.random() < 0.7]
        books.append(chance.choice([[(places, bounds)], [(places, bounds)], random_book(chance, around, 2)]))
    return Web(country, books)


def slow_kind(web, gate):
    plugged = [side for side in slow_sides(web.country) if slow_witnesses(web, *side)]
    towards = [slow_witnesses(web, *slow_way(web.country, yard, gate)[:2]) for yard in web.country.yards]
    if not any(towards):
        return "clear"
    return "own" if slow_posts(web.country, plugged) else "bad"


def slow_joined(web, gate, other, door):
    """By names for all places, which are numbered at the end."""
    names, lanes, books = [], [], {}
    ends = {}
    for word, part, end in (("a", web, gate), ("b", other, door)):
        places = range(len(part.country.lanes) + 1)
        names += [(word, place) for place in places if place != end]
        lanes += [((word, one), (word, two)) for one, two in part.country.lanes if end not in (one, two)]
        ends[word] = (word, part.country.neighbours(end)[0])
        for yard in part.country.yards:
            books[word, yard] = [(most, [[None if side is None else (word, side) for side in bound[:2]] + [bound[2]]
                                         for bound in bounds]) for most, bounds in part.book(yard)]
    lanes.append((ends["a"], ends["b"]))
    stood = {("a", gate): ends["b"], ("b", door): ends["a"]}

    def number(name):
        return None if name is None else names.index(stood.get(name, name))
    country = Country([(number(one), number(two)) for one, two in lanes])
    told = {number(name): [(most, [(number(a), number(b), many) for a, b, many in bounds]) for most, bounds in book]
            for name, book in books.items()}
    return Web(country, [told[yard] for yard in country.yards])


class KindTest(Case):
    def test_kinds(self):
        for web, gate, wanted in [(FULL_ONE, 2, "own"), (EASY, 2, "clear"), (EASY, 0, "own"), (BOTH, 3, "bad"),
                                  (BOTH, 0, "bad"), (PLAIN_ROW, 4, "bad"), (Web(SHORT, [[(1, [])]]), 0, "own")]:
            self.assertEqual([kind(web, gate), kind(gate=gate, web=web)], [wanted, wanted])

    def test_each_yard_is_asked(self):
        # No yard is plugged towards 3; the first one, not the second one, is plugged towards 3; and so on.
        def told(first, second):
            return Web(ROW, [[(2, [(None, 2, first)])], [(2, [(None, 3, second)])]])
        self.assertEqual([kind(told(1, 1), 3), kind(told(2, 1), 3), kind(told(1, 2), 3), kind(told(2, 2), 3)],
                         ["clear", "bad", "own", "bad"])
        self.assertEqual([posts(told(1, 1)), posts(told(2, 1)), posts(told(1, 2))], [[2], [], [2]])

    def test_clear_at_one_door_and_not_at_another_one(self):
        star = Web(STAR, [[(2, [(None, 1, 1)])], [(2, [(None, 4, 1)])], [(2, [(None, 0, 1)])], [(2, [(None, 0, 1)])]])
        self.assertEqual([kind(star, 4), kind(star, 5), kind(star, 6)], ["clear", "own", "own"])
        self.assertEqual(posts(star), [1])
        self.assertEqual(clear_doors(star, [6, 5, 4]), [4])

    def test_a_gate_beside_the_door_at_the_same_yard(self):
        # Carts for the gate 2 are bounded, those for the gates 0 and 3 not.
        web = Web(Country([(0, 1), (1, 2), (1, 3)]), [[(2, [(None, 2, 1)])]])
        self.assertEqual([kind(web, 0), kind(web, 2), kind(web, 3)], ["own", "clear", "own"])
        self.assertEqual(clear_doors(web, (0, 2, 3)), [2])

    def test_clear_doors(self):
        each = Web(SHORT, [[(2, [(None, 2, 1), (None, 0, 1)])]])
        self.assertEqual(clear_doors(each, [2, 0]), [0, 2])
        self.assertEqual(clear_doors(gates=(2,), web=each), [2])
        self.assertEqual([clear_doors(each, []), clear_doors(each, ())], [[], []])
        self.assertEqual([clear_doors(EASY, [2, 0]), clear_doors(EASY, [0]), clear_doors(BOTH, [0, 3])], [[2], [], []])

    def test_clear_has_a_post_at_the_door(self):
        chance = random.Random(45)
        seen = {}
        for _ in range(120):
            web = kept_web(chance, 7)
            gates = web.country.gates
            chance.shuffle(gates)
            told = [kind(web, gate) for gate in gates]
            self.assertEqual(told, [slow_kind(web, gate) for gate in gates])
            self.assertEqual(clear_doors(web, gates), sorted(gate for gate, word in zip(gates, told) if word == "clear"))
            for gate, word in zip(gates, told):
                self.says(word == "bad", word != "clear" and can_be_stuck(web))
                if word == "clear":
                    self.assertIn(web.country.neighbours(gate)[0], posts(web))
                seen[word] = seen.get(word, 0) + 1
        self.assertTrue(min(seen[word] for word in KINDS) > 5, seen)


class JoinedTest(Case):
    def told(self, lanes, books, *told):
        web, gate, other, door = told
        for made in [joined(*told), joined(door=door, other=other, gate=gate, web=web)]:
            self.assertIs(type(made), Web)
            self.assertEqual([made.country.lanes, made.books], [lanes, books])

    def test_joined(self):
        self.told([(0, 1), (1, 2), (2, 3)], [[(2, [(None, 2, 1)])], PLAIN], EASY, 2, FULL_ONE, 0)
        self.told([(0, 1), (1, 2), (2, 3)], [[(2, [(None, 2, 1)])], [(2, [(None, 3, 1)])]], EASY, 2, EASY, 0)
        self.told([(0, 1), (1, 3), (2, 3)], [[(2, [(None, 3, 1)])], [(2, [(None, 1, 1)])]], EASY, 2, EASY, 2)
        self.told([(0, 1), (0, 2), (2, 3)], [[(2, [(None, 1, 1)])], [(2, [(None, 3, 1)])]], EASY, 0, EASY, 0)
        self.told([(0, 1), (0, 3), (2, 3)], [[(2, [(None, 1, 1)])], [(2, [(None, 0, 1)])]], EASY, 0, EASY, 2)

    def test_gates_that_are_left_get_new_numbers(self):
        # Without the gate 2 the places 3, 4, 5, 6 of the one are 2, 3, 4, 5; those of the other one go on with 6.
        books = [[(2, [(0, 4, 1), (5, None, 2)])], [(3, [(None, 3, 1)]), (1, [])], [(1, [(7, 2, 1), (1, None, 1)])]]
        self.told([(0, 1), (1, 4), (1, 5), (2, 3), (2, 4), (4, 7), (6, 7)], books + [PLAIN], MIXED, 2, FULL_ONE, 2)
        # The other way round: of the short one 0 and 1 are left, so 1 counts for the gate 2 of the other one.
        books = [[(2, [(2, 6, 1), (7, None, 2)])], [(3, [(None, 5, 1)]), (1, [])], [(1, [(1, 4, 1), (3, None, 1)])]]
        self.told([(0, 1), (1, 6), (2, 3), (3, 6), (3, 7), (4, 5), (4, 6)], [PLAIN] + books, FULL_ONE, 2, MIXED, 2)

    def test_posts_of_what_is_joined(self):
        self.assertEqual([posts(joined(easy, 2, FULL_ONE, 0)) for easy in [EASY, FULL_ONE]], [[2], []])

    def test_7_yards_and_8(self):
        row = Web(LINE, [PLAIN] * 3)
        four = joined(row, 4, FULL_ONE, 0)
        seven = joined(row, 4, four, 0)
        self.assertEqual(seven.country.yards, [1, 2, 3, 4, 5, 6, 7])
        self.assertEqual(seven.country.lanes, [(k, k + 1) for k in range(8)])
        self.fails(TooMany, {"what": "yards", "limit": 7}, joined, four, 0, four, 0)
        self.fails(TooMany, {"what": "yards", "limit": 7}, joined, seven, 0, FULL_ONE, 0)
        self.fails(TooMany, {"what": "yards", "limit": 7}, joined, door=0, other=seven, gate=2, web=FULL_ONE)

    def test_against_names(self):
        chance = random.Random(46)
        tried = 0
        while tried < 120:
            web, other = random_web(chance), random_web(chance)
            gate, door = chance.choice(web.country.gates), chance.choice(other.country.gates)
            if len(web.country.yards) + len(other.country.yards) > 7:
                self.fails(TooMany, {"what": "yards", "limit": 7}, joined, web, gate, other, door)
            else:
                self.says(True, joined(web, gate, other, door) == slow_joined(web, gate, other, door))
                tried += 1


class PartsTest(Case):
    def test_are_never_stuck(self):
        good = [("clear", "clear"), ("clear", "own"), ("own", "clear")]
        for near, far in itertools.product(KINDS, repeat=2):
            self.says((near, far) in good, are_never_stuck(near, far))
            self.says((near, far) in good, are_never_stuck(far=far, near=near))

    def test_partings(self):
        samples = {word: self.samples(word) for word in KINDS}
        for near, far in itertools.product(KINDS, repeat=2):
            told = parting(near, far)
            self.assertEqual(parting(far=far, near=near) == told, True)
            if near == far:
                self.assertIs(told, None)
                continue
            self.assertIs(type(told), tuple)
            web, gate = told
            self.assertTrue(len(web.country.yards) <= 4 and gate in web.country.gates)
            ends = [{can_be_stuck(joined(web, gate, other, door)) for other, door in samples[word]} for word in (near, far)]
            self.assertIn(ends, [[{True}, {False}], [{False}, {True}]])

    def samples(self, word):
        """Some webs of this kind, of at most three yards, with their doors."""
        chance = random.Random(47)
        told = []
        while len(told) < 6:
            web = random_web(chance, 2)
            if len(web.country.yards) <= 3:
                told += [(web, gate) for gate in web.country.gates if kind(web, gate) == word][:1]
        return told

    def test_fact(self):
        chance = random.Random(48)
        seen = {}
        for _ in range(250):
            web, other = kept_web(chance, 4), kept_web(chance, 3)
            gate, door = chance.choice(web.country.gates), chance.choice(other.country.gates)
            kinds = kind(web, gate), kind(other, door)
            self.says(are_never_stuck(*kinds), not can_be_stuck(joined(web, gate, other, door)))
            seen[kinds] = True
        self.assertEqual(len(seen), 9)


class WrongInputsTest(Case):
    def test_in_their_sequence(self):
        web, gate = ("web", PLAIN_ROW, InvalidWeb, NO_WEB), ("gate", 4, InvalidGate, NO_GATE)
        no_gates = ODD + ODD_LISTS + [[0, 0], [0, 4, 0], [0, 1], [4, 5], (0, 2), [0, None], [True], [0, False], ["0"], [[0]],
                                      {0: 4}, [0, 10 ** 29], [-1]]
        self.refuses(kind, web, gate)
        self.refuses(clear_doors, web, ("gates", [4, 0], InvalidGates, no_gates))
        other = ("other", EASY, InvalidWeb, NO_WEB)
        door = ("door", 2, InvalidDoor, ODD + ODD_LISTS + [1, 3, 4])
        self.refuses(joined, web, gate, other, door)

    def test_a_door_of_the_other_one(self):
        self.fails(InvalidDoor, {"value": 4}, joined, PLAIN_ROW, 4, EASY, 4)
        self.fails(InvalidGate, {"value": 2}, joined, PLAIN_ROW, 2, EASY, 4)
        self.assertEqual(len(joined(PLAIN_ROW, 4, EASY, 2).country.yards), 4)
        self.fails(InvalidDoor, {"value": 2}, joined, EASY, 2, PLAIN_ROW, 2)

    def test_the_doors_come_ahead_of_too_many(self):
        seven = Web(FULL, [PLAIN] * 7)
        self.fails(InvalidDoor, {"value": 1}, joined, seven, 0, FULL_ONE, 1)
        self.fails(TooMany, {"what": "yards", "limit": 7}, joined, seven, 0, FULL_ONE, 0)

    def test_kinds(self):
        odd = ODD + ODD_LISTS + ["Clear", "clear ", "open", b"own", "never", ["own"], ("bad",), EASY, "clea", "o"]
        near, far = ("near", "own", InvalidKind, odd), ("far", "own", InvalidKind, odd)
        for call in [are_never_stuck, parting]:
            self.refuses(call, near, far)
        # A wrong one is one also where the other one would decide.
        self.fails(InvalidKind, {"value": "none"}, are_never_stuck, "bad", "none")


if __name__ == "__main__":
    unittest.main()
