import random
import unittest

from helpers import FULL, LINE, ODD, ODD_LISTS, SHORT, Case, bounded_web, random_book, random_country, random_web, slow_facing
from helpers import slow_is_towards, slow_sides, slow_stands, slow_way, slow_witnesses
from lanekeepers.countries import Country
from lanekeepers.errors import InvalidWeb
from lanekeepers.plans import shows_stuck, stuck_script, stuck_stand
from lanekeepers.posts import can_be_stuck, nearest, posts
from lanekeepers.sides import plugged_sides
from lanekeepers.steps import after, is_script, is_stuck
from lanekeepers.webs import Web
from wrong import NO_STEP_LISTS, NO_WEB, PLAIN_ROW

PLAIN = [(2, [])]
KEPT = Web(LINE, [[(2, [(None, 2, 1)])], [(2, [(None, 3, 1)])], PLAIN])
FOUR = Country([(0, 1), (1, 2), (2, 3), (3, 4), (4, 5)])
PAIR = Country([(0, 1), (1, 2), (2, 3)])


def slow_stuck_stand(web):
    """The stuck stand as the document tells it, over whole ways, from slow witnesses."""
    country = web.country
    pairs = slow_facing(country, [side for side in slow_sides(country) if slow_witnesses(web, *side)])
    if not pairs:
        return None
    _, (a, u), (b, t) = min((len(slow_way(country, one[0], other[0])), one, other) for one, other in pairs)
    (_, n, z), (_, m, y) = slow_witnesses(web, a, u)[0], slow_witnesses(web, b, t)[0]

    def beyond(yard, near):
        return min(gate for gate in country.gates if slow_is_towards(country, (yard, near), gate))

    def through(yard, goal):
        return min(gate for gate in country.gates if yard in slow_way(country, gate, goal))

    carts = [(a, beyond(a, origin), beyond(b, y)) for origin, _, many in n for _ in range(many)]
    carts += [(b, beyond(b, origin), beyond(a, z)) for origin, _, many in m for _ in range(many)]
    walk = slow_way(country, a, b)
    for before, yard, behind in zip(walk, walk[1:], walk[2:]):
        book = web.book(yard)
        most = max(many for many in range(7) if slow_stands(book, [(behind, before, many)]))
        also = max(many for many in range(7) if slow_stands(book, [(behind, before, most), (before, behind, many)]))
        carts += [(yard, through(b, a), beyond(a, z))] * most + [(yard, through(a, b), beyond(b, y))] * also
    return sorted(carts)


def free_alternative(chance, country, yard):
    """An alternative by which the yard is plugged towards no other yard."""
    places = chance.randint(2, 6)
    return places, [(None, near, chance.randint(1, places - 1)) for near in country.neighbours(yard) if near in country.yards]


def parted_web(chance):
    """A web in which mostly just two yards are plugged, so that there often are others between them."""
    country = random_country(chance)
    while len(country.yards) < 3:
        country = random_country(chance)
    ends = chance.sample(country.yards, 2)
    return Web(country, [random_book(chance, country.neighbours(yard)) if yard in ends else
                         [free_alternative(chance, country, yard) for _ in range(chance.randint(1, 2))]
                         for yard in country.yards])


class StuckStandTest(Case):
    def told(self, wanted, web):
        self.assertEqual(stuck_stand(web), wanted)
        self.assertEqual(stuck_stand(web=web), wanted)
        script = stuck_script(web)
        self.assertIs(type(script), list)
        self.assertTrue(len(script) <= 400)
        self.says(True, shows_stuck(web, script))
        self.says(True, is_stuck(web, wanted))
        self.assertEqual(stuck_script(web=web), script)

    def test_side_by_side(self):
        self.told([(1, 0, 4), (1, 0, 4), (2, 4, 0), (2, 4, 0)], PLAIN_ROW)
        self.told([(1, 0, 3), (2, 3, 0)], Web(PAIR, [[(1, [])]] * 2))
        self.told([(1, 0, 3)] * 6 + [(2, 3, 0)] * 6, Web(PAIR, [[(6, [])]] * 2))

    def test_yards_between(self):
        books = [[(2, [])], [(3, [(None, 1, 2), (None, 3, 2)])], [(4, [(None, 2, 1), (None, 4, 2)])], [(1, [])]]
        self.told([(1, 0, 5)] * 2 + [(2, 0, 5)] + [(2, 5, 0)] * 2 + [(3, 0, 5)] * 2 + [(3, 5, 0)] + [(4, 5, 0)], Web(FOUR, books))

    def test_those_towards_the_first_side_come_first(self):
        # In yard 2 there would be room for three of either kind; two of each kind bar the other one from more than one.
        middle = [(4, [(None, 1, 3), (None, 3, 3)])]
        self.told([(1, 0, 4)] * 2 + [(2, 0, 4)] + [(2, 4, 0)] * 3 + [(3, 4, 0)] * 2, Web(LINE, [PLAIN, middle, PLAIN]))

    def test_the_least_gates(self):
        country = Country([(1, 7), (1, 5), (1, 2), (2, 3), (3, 4), (3, 0), (2, 6), (4, 8), (4, 9)])
        middle = [(3, [(None, 1, 2), (None, 3, 2)])]
        web = Web(country, [PLAIN, middle, [(2, [(None, 4, 1)])], [(2, [(None, 3, 1)])]])
        self.assertEqual(nearest(web), ((1, 2), (3, 2)))
        # The least loads have carts of both origins: of 5 and 7, and of 0 and 4, beyond which 8 is the least gate.
        self.told([(1, 5, 0), (1, 7, 0), (2, 0, 5), (2, 0, 5), (2, 5, 0), (3, 0, 5), (3, 8, 5)], web)

    def test_the_gate_of_the_witness(self):
        # The cart that yard 1 keeps out goes on to 4, not to 0.
        country = Country([(1, 0), (1, 4), (1, 2), (2, 3)])
        web = Web(country, [[(6, [(2, 4, 0)]), (1, [])], PLAIN])
        self.told([(1, 0, 3), (2, 3, 4), (2, 3, 4)], web)

    def test_carts_from_behind_other_yards(self):
        country = Country([(1, 0), (1, 2), (2, 3), (3, 4), (4, 5), (5, 6)])
        shy = [[(2, [(None, 2, 1)])], PLAIN, PLAIN, [(2, [(None, 3, 1)])], [(2, [(None, 4, 1)])]]
        web = Web(country, shy)
        self.assertEqual(nearest(web), ((2, 3), (3, 2)))
        self.told([(2, 0, 6)] * 2 + [(3, 6, 0)] * 2, web)

    def test_none(self):
        for web in [KEPT, Web(SHORT, [PLAIN])]:
            self.assertEqual([stuck_stand(web), stuck_script(web)], [None, None])

    def test_the_greatest_web(self):
        self.told([(1, 0, 12), (1, 8, 12)] + [(1, 9, 12)] * 4 + [(2, 10, 0)] + [(2, 11, 0)] * 4 + [(2, 12, 0)],
                  Web(FULL, [[(6, [])]] * 7))
        # Of these yards only the first one and the last one are plugged.
        books = [[(6, [])]] + [[(6, [(None, k - 1, 3), (None, k + 1, 3)])] for k in range(2, 7)] + [[(6, [])]]
        inner = [cart for k in range(2, 7) for cart in [(k, 0, 20)] * 3 + [(k, 20, 0)] * 3]
        self.told([(1, 0, 20), (1, 8, 20)] + [(1, 9, 20)] * 4 + inner + [(7, 20, 0), (7, 21, 0)] + [(7, 22, 0)] * 4,
                  Web(FULL, books))

    def test_lists_are_new(self):
        for call in [lambda: stuck_stand(PLAIN_ROW), lambda: stuck_script(PLAIN_ROW)]:
            wanted, told = call(), call()
            told.append(1)
            self.assertEqual(call(), wanted)


class ShowsStuckTest(Case):
    def test_scripts(self):
        jam = [("in", 0, 4), ("in", 0, 4), ("in", 4, 0), ("in", 4, 0), ("on", 3, 4, 0), ("on", 3, 4, 0)]
        self.says(True, shows_stuck(PLAIN_ROW, jam))
        self.says(True, shows_stuck(value=tuple(jam), web=PLAIN_ROW))
        self.says(True, shows_stuck(PLAIN_ROW, jam + [("in", 4, 0)]))
        for steps in [[], (), jam[:-1], jam[1:], jam[:1], jam + [("on", 1, 0, 4)], jam + [("in", 0, 4)], jam + [("on", 3, 0, 4)]]:
            self.says(False, shows_stuck(PLAIN_ROW, steps))
        self.says(False, shows_stuck(KEPT, jam))

    def test_400_steps_and_more(self):
        over = [("in", 0, 3), ("on", 1, 0, 3), ("on", 2, 0, 3)]
        jam = [("in", 0, 3)] * 2 + [("in", 3, 0)] * 2
        web = Web(PAIR, [PLAIN, PLAIN])
        self.says(True, shows_stuck(web, over * 132 + jam))
        self.says(False, shows_stuck(web, over * 133 + jam))
        wider = Web(PAIR, [[(3, [])], PLAIN])
        self.says(True, shows_stuck(wider, over * 131 + [("in", 0, 3)] + jam))
        self.says(False, shows_stuck(wider, over * 132 + [("in", 0, 3)] + jam))

    def test_42_carts(self):
        row = Country([(k, k + 1) for k in range(8)])
        web = Web(row, [[(6, [])]] * 7)
        steps = [("in", 0, 8)] * 6
        for yard in range(2, 8):
            for _ in range(6):
                steps += [("in", 8, 0)] + [("on", at, 8, 0) for at in range(7, yard, -1)]
        self.assertEqual(len(after(web, [], steps)), 42)
        self.says(True, shows_stuck(web, steps))

    def test_any_value(self):
        for odd in NO_STEP_LISTS + ODD + ODD_LISTS + [PLAIN_ROW]:
            with self.subTest(odd=repr(odd)):
                self.says(False, shows_stuck(PLAIN_ROW, odd))


class WrongInputsTest(Case):
    def test_wrong_web(self):
        web = ("web", PLAIN_ROW, InvalidWeb, NO_WEB)
        self.refuses(stuck_stand, web)
        self.refuses(stuck_script, web)
        self.refuses(shows_stuck, web, ("value", []))


class FactsTest(Case):
    def test_the_plan_of_many_webs(self):
        chance = random.Random(25)
        apart = 0
        for _ in range(150):
            web = chance.choice([random_web, bounded_web, parted_web])(chance)
            wanted = slow_stuck_stand(web)
            self.assertEqual(stuck_stand(web), wanted)
            self.says(wanted is not None, can_be_stuck(web))
            script = stuck_script(web)
            if wanted is None:
                self.assertIsNone(script)
                self.assertNotEqual(posts(web), [])
            else:
                self.assertTrue(len(script) <= 400)
                self.says(True, is_stuck(web, after(web, [], script)))
                self.says(True, is_script(web, script, 42))
                one, other = nearest(web)
                self.assertTrue({one, other} <= set(plugged_sides(web)))
                apart += len(slow_way(web.country, one[0], other[0])) > 2
        self.assertTrue(apart > 15, apart)


if __name__ == "__main__":
    unittest.main()
