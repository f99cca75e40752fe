import random
import unittest

from helpers import FULL, LINE, ODD, ODD_LISTS, STAR, Case, random_walk, random_web, slow_is_stand, slow_load, slow_way
from lanekeepers.countries import Country
from lanekeepers.errors import InvalidCountry, InvalidStand, InvalidWeb, InvalidYard
from lanekeepers.loads import is_load
from lanekeepers.stands import counted, is_cart, is_stand, lanes_left, load_at
from lanekeepers.steps import after, can_step, is_stuck, refused, stepped, why_refused
from lanekeepers.webs import Web
from wrong import NO_CARTS, NO_STANDS, NO_WEB

ROW = Web(LINE, [[(2, [])], [(2, [])], [(2, [])]])
SHY = Web(LINE, [[(2, [(None, 2, 1)])], [(2, [(1, 3, 1)]), (1, [])], [(2, [])]])
TREE = Web(STAR, [[(2, [])]] * 4)


class CartTest(Case):
    def test_carts(self):
        for cart in [(1, 0, 4), (2, 0, 4), (3, 0, 4), (1, 4, 0), (2, 4, 0), (3, 4, 0)]:
            self.says(True, is_cart(LINE, cart))
        for cart in [(1, 4, 5), (0, 4, 5), (2, 4, 5), (0, 6, 5), (3, 6, 5)]:
            self.says(True, is_cart(STAR, cart))
        self.says(True, is_cart(value=(4, 0, 22), country=FULL))

    def test_no_carts(self):
        for odd in NO_CARTS + ODD + ODD_LISTS:
            with self.subTest(odd=repr(odd)):
                self.says(False, is_cart(LINE, odd))

    def test_the_yard_is_on_the_way(self):
        for cart in [(3, 4, 5), (1, 5, 6), (2, 4, 6)]:
            self.says(False, is_cart(STAR, cart))

    def test_all_of_a_country(self):
        chance = random.Random(12)
        for _ in range(10):
            country = random_web(chance).country
            places = range(len(country.lanes) + 2)
            for yard in places:
                for start in places:
                    for end in places:
                        wanted = (yard in country.yards and start in country.gates and end in country.gates and start != end
                                  and yard in slow_way(country, start, end))
                        self.says(wanted, is_cart(country, (yard, start, end)))

    def test_wrong_country(self):
        self.fails_for(InvalidCountry, ODD + ODD_LISTS + [ROW], lambda odd: is_cart(odd, (1, 0, 4)))


class StandTest(Case):
    def test_stands(self):
        for stand in [[], (), [(1, 0, 4)], [(1, 0, 4)] * 2, [(3, 4, 0), (1, 0, 4)], ((1, 0, 4), (1, 4, 0)),
                      [(place, 0, 4) for place in [3, 3, 2, 2, 1, 1]]]:
            self.says(True, is_stand(ROW, stand))
        self.says(False, is_stand(value=[(2, 0, 4), (2, 0, 4)], web=SHY))
        self.says(True, is_stand(value=[(2, 4, 0), (2, 0, 4)], web=SHY))
        self.says(False, is_stand(SHY, [(1, 0, 4), (1, 0, 4)]))
        self.says(True, is_stand(SHY, [(1, 0, 4), (1, 4, 0)]))
        self.says(True, is_stand(Web(LINE, [[(6, [])]] * 3), [(1, 0, 4)] * 6 + [(2, 4, 0)] * 6 + [(3, 4, 0)] * 6))

    def test_no_stands(self):
        for odd in NO_STANDS + ODD + ODD_LISTS:
            with self.subTest(odd=repr(odd)):
                self.says(False, is_stand(ROW, odd))
        for cart in NO_CARTS + ODD:
            with self.subTest(cart=repr(cart)):
                self.says(False, is_stand(ROW, [cart]))
                self.says(False, is_stand(ROW, [(1, 0, 4), cart]))

    def test_load_at(self):
        self.assertEqual(load_at(ROW, [(2, 0, 4), (1, 0, 4), (2, 4, 0)], 2), [(1, 3, 1), (3, 1, 1)])
        self.assertEqual(load_at(ROW, [(2, 0, 4), (1, 0, 4), (2, 4, 0)], 1), [(0, 2, 1)])
        self.assertEqual(load_at(yard=3, stand=((2, 0, 4),), web=ROW), [])
        self.assertEqual(load_at(ROW, [], 1), [])
        self.assertEqual(load_at(ROW, [(1, 4, 0), (1, 4, 0)], 1), [(2, 0, 2)])
        big = Web(STAR, [[(6, [])]] * 4)
        self.assertEqual(load_at(big, [(0, 6, 4), (0, 4, 5), (0, 6, 4), (1, 4, 5)], 0), [(1, 2, 1), (3, 1, 2)])

    def test_carts_of_unlike_gates_that_are_one_pair(self):
        country = Country([(0, 1), (1, 2), (2, 3), (1, 4), (2, 5)])
        web = Web(country, [[(6, [])]] * 2)
        self.assertEqual(load_at(web, [(2, 0, 3), (2, 4, 3), (2, 0, 5)], 2), [(1, 3, 2), (1, 5, 1)])

    def test_counted_and_lanes_left(self):
        self.assertEqual([counted(ROW, []), counted(ROW, [(1, 0, 4), (1, 0, 4)]), counted(stand=((1, 0, 4),), web=ROW)], [0, 2, 1])
        self.assertEqual([lanes_left(ROW, [(1, 0, 4), (2, 4, 0)]), lanes_left(ROW, []), lanes_left(stand=[(3, 0, 4)], web=ROW)],
                         [5, 0, 1])
        self.assertEqual(lanes_left(TREE, [(1, 4, 6), (1, 4, 6), (0, 5, 4)]), 8)

    def test_wrong_inputs(self):
        calls = [lambda web, stand: load_at(web, stand, 0), counted, lanes_left, lambda web, stand: can_step(web, stand, 0),
                 lambda web, stand: stepped(web, stand, 0), lambda web, stand: after(web, stand, 0), refused, is_stuck,
                 lambda web, stand: why_refused(web, stand, 0), lambda web, stand: counted(stand=stand, web=web)]
        for call in calls:
            self.fails_for(InvalidWeb, NO_WEB, lambda odd: call(odd, [(9, 9, 9)]))
            self.fails_for(InvalidStand, NO_STANDS + ODD + ODD_LISTS, lambda odd: call(ROW, odd))
            self.fails_for(InvalidStand, [[cart] for cart in NO_CARTS], lambda odd: call(ROW, odd))
        self.fails_for(InvalidWeb, NO_WEB, lambda odd: is_stand(odd, []))
        self.fails_for(InvalidYard, ODD + ODD_LISTS + [0, 4, 5], lambda odd: load_at(ROW, [], odd))
        self.fails(InvalidYard, {"value": 0}, load_at, yard=0, stand=(), web=ROW)


class FactsTest(Case):
    def test_against_whole_ways(self):
        chance = random.Random(13)
        for _ in range(25):
            web = random_web(chance)
            country = web.country
            stands = random_walk(chance, web, 25)[1]
            full = max(stands, key=len)
            chance.shuffle(full)
            for stand in stands + [full]:
                self.says(True, is_stand(web, stand))
                self.assertEqual(counted(web, stand), len(stand))
                self.assertEqual(lanes_left(web, stand), sum(len(slow_way(country, yard, end)) - 1 for yard, _, end in stand))
                for yard in country.yards:
                    self.assertEqual(load_at(web, stand, yard), slow_load(country, stand, yard))
                    self.says(True, is_load(country, yard, load_at(web, stand, yard)))

    def test_random_carts(self):
        chance = random.Random(14)
        told = []
        for _ in range(60):
            web = random_web(chance, 4)
            ways = [(a, b) for a in web.country.gates for b in web.country.gates if a != b]
            carts = [(chance.choice(slow_way(web.country, *pair)[1:-1]),) + pair for pair in chance.choices(ways, k=4)]
            told.append(is_stand(web, carts))
            self.says(slow_is_stand(web, carts), told[-1])
        self.assertTrue(5 < told.count(True) < 55)


if __name__ == "__main__":
    unittest.main()
