import random
import unittest

from helpers import FULL, LINE, ODD, ODD_LISTS, SHORT, STAR, Case, loads_up_to, random_book, random_country, random_load
from helpers import random_web, slow_stands
from lanekeepers.books import stands
from lanekeepers.countries import Country
from lanekeepers.errors import InvalidBook, InvalidCountry, InvalidLoad, InvalidOrigin, InvalidTarget, InvalidWeb
from lanekeepers.errors import InvalidYard, TooMany
from lanekeepers.loads import greatest_loads, heaviest, is_at_most, is_load, lets, loads_towards, with_cart, within
from lanekeepers.webs import Web
from wrong import BAD_LOADS, NO_WEB

PLAIN = [(2, [])]
SHY = [(2, [(None, 3, 1)])]
WEB = Web(LINE, [PLAIN, SHY, PLAIN])
FORK = Country([(0, 1), (0, 2), (0, 3)])
CROSS = Country([(0, 1), (0, 2), (0, 3), (0, 4)])
JUST_400 = [(5, [(3, None, 3), (2, None, 3)])]
# The other alternative lets just one load more: four carts from 3 to 1.
ONE_MORE = JUST_400 + [(4, [(3, 2, 0), (2, None, 3)])]


def at_most(load, other):
    return all(many <= dict(((o, t), n) for o, t, n in other).get((origin, target), 0) for origin, target, many in load)


class IsLoadTest(Case):
    def test_loads(self):
        for load in [[], (), [(1, 3, 1)], ((1, 3, 1), (3, 1, 2)), [(3, 1, 10 ** 29)], [(1, 3, 7), (3, 1, 1)]]:
            self.says(True, is_load(LINE, 2, load))
        self.says(True, is_load(value=[(0, 2, 1), (2, 0, 1)], yard=1, country=LINE))
        self.says(True, is_load(STAR, 0, [(1, 2, 1), (1, 3, 4), (2, 1, 1), (2, 3, 1), (3, 1, 1), (3, 2, 1)]))
        self.says(False, is_load(STAR, 0, [(1, 2, 1), (2, 1, 1), (1, 3, 4)]))

    def test_no_loads(self):
        for odd in ODD + ODD_LISTS + BAD_LOADS + [LINE, WEB]:
            with self.subTest(odd=repr(odd)):
                self.says(False, is_load(LINE, 2, odd))
                self.says(odd == (1, 3, 1), is_load(LINE, 2, [odd]))

    def test_wrong_inputs(self):
        self.fails_for(InvalidCountry, ODD + ODD_LISTS + [WEB], lambda odd: is_load(odd, 0, []))
        self.fails_for(InvalidYard, ODD + ODD_LISTS + [0, 4, 5], lambda odd: is_load(LINE, odd, []))
        self.fails(InvalidYard, {"value": 4}, is_load, value=None, yard=4, country=LINE)

    def test_true_is_no_one(self):
        self.says(False, is_load(SHORT, 1, [(0, 2, True)]))
        self.says(False, is_load(SHORT, 1, [(False, 2, 1)]))
        self.says(False, is_load(LINE, 2, [(3, True, 1)]))


class WithCartTest(Case):
    def test_one_more(self):
        self.assertEqual(with_cart(LINE, 2, [(1, 3, 1)], 3, 1), [(1, 3, 1), (3, 1, 1)])
        self.assertEqual(with_cart(LINE, 2, [(3, 1, 1)], 1, 3), [(1, 3, 1), (3, 1, 1)])
        self.assertEqual(with_cart(LINE, 2, [(1, 3, 1)], 1, 3), [(1, 3, 2)])
        self.assertEqual(with_cart(LINE, 2, [], 1, 3), [(1, 3, 1)])
        self.assertEqual(with_cart(target=3, origin=2, load=((1, 2, 1), (2, 3, 9), (3, 1, 1)), yard=0, country=STAR),
                         [(1, 2, 1), (2, 3, 10), (3, 1, 1)])
        self.assertEqual(with_cart(LINE, 2, [(1, 3, 10 ** 29)], 1, 3), [(1, 3, 10 ** 29 + 1)])

    def test_told_is_a_load_and_new(self):
        load = [(1, 3, 1)]
        for origin, target in [(1, 3), (3, 1)]:
            told = with_cart(LINE, 2, load, origin, target)
            self.assertIs(type(told), list)
            self.says(True, is_load(LINE, 2, told))
            told.clear()
        self.assertEqual(load, [(1, 3, 1)])

    def test_wrong_inputs(self):
        self.fails_for(InvalidCountry, ODD + ODD_LISTS, lambda odd: with_cart(odd, 0, 0, 0, 0))
        self.fails_for(InvalidYard, ODD + ODD_LISTS + [0, 4, 5], lambda odd: with_cart(LINE, odd, 0, 0, 0))
        self.fails_for(InvalidLoad, ODD + BAD_LOADS, lambda odd: with_cart(LINE, 2, odd, 0, 0))
        self.fails_for(InvalidOrigin, ODD + ODD_LISTS + [0, 2, 4], lambda odd: with_cart(LINE, 2, [], odd, 0))
        self.fails_for(InvalidTarget, ODD + ODD_LISTS + [0, 2, 4, 1], lambda odd: with_cart(LINE, 2, [], 1, odd))
        self.fails(InvalidTarget, {"value": 3}, with_cart, target=3, origin=3, load=[], yard=2, country=LINE)


class AtMostTest(Case):
    def test_each_pair_counts(self):
        for load, other, wanted in [([], [], True), ([], [(1, 3, 1)], True), ([(1, 3, 1)], [], False),
                                    ([(3, 1, 1)], [(1, 3, 1), (3, 1, 2)], True), ([(3, 1, 2)], [(1, 3, 1), (3, 1, 2)], True),
                                    ([(3, 1, 3)], [(1, 3, 1), (3, 1, 2)], False), ([(1, 3, 1)], [(3, 1, 9)], False),
                                    ([(1, 3, 1), (3, 1, 1)], [(1, 3, 2)], False)]:
            self.says(wanted, is_at_most(LINE, 2, load, other))
            self.says(wanted, is_at_most(other=tuple(other), load=tuple(load), yard=2, country=LINE))

    def test_many(self):
        chance = random.Random(9)
        for _ in range(200):
            load, other = random_load(chance, [1, 2, 3]), random_load(chance, [1, 2, 3], 5)
            self.says(at_most(load, other), is_at_most(STAR, 0, load, other))

    def test_wrong_inputs(self):
        self.fails_for(InvalidCountry, ODD, lambda odd: is_at_most(odd, 0, 0, 0))
        self.fails_for(InvalidYard, ODD + [0, 4, 5], lambda odd: is_at_most(LINE, odd, 0, 0))
        self.fails_for(InvalidLoad, ODD + BAD_LOADS, lambda odd: is_at_most(LINE, 2, odd, [(9, 9, 9)]))
        self.fails_for(InvalidLoad, ODD + BAD_LOADS, lambda odd: is_at_most(LINE, 2, [], odd))
        self.fails(InvalidLoad, {"value": "b"}, is_at_most, other="a", load="b", yard=2, country=LINE)


class LetsTest(Case):
    def test_by_the_yard_s_book(self):
        for yard, load, wanted in [(2, [(1, 3, 2)], False), (2, [(3, 1, 2)], True), (2, [], True), (1, [(0, 2, 2)], True),
                                   (1, [(0, 2, 1), (2, 0, 2)], False), (2, ((1, 3, 1), (3, 1, 1)), True)]:
            self.says(wanted, lets(WEB, yard, load))
        self.says(False, lets(load=[(1, 3, 2)], yard=2, web=WEB))

    def test_wrong_inputs(self):
        for call in [lets, loads_towards, heaviest]:
            self.fails_for(InvalidWeb, NO_WEB, lambda odd: call(odd, 0, 0))
            self.fails_for(InvalidYard, ODD + ODD_LISTS + [0, 4, 5], lambda odd: call(WEB, odd, None))
        self.fails_for(InvalidLoad, ODD + BAD_LOADS, lambda odd: lets(WEB, 2, odd))
        for call in [loads_towards, heaviest]:
            self.fails_for(InvalidTarget, ODD + ODD_LISTS + [0, 2, 4], lambda odd: call(WEB, 2, odd))
            self.fails(InvalidTarget, {"value": 9}, call, target=9, yard=1, web=WEB)
        self.fails_for(InvalidWeb, NO_WEB, lambda odd: greatest_loads(odd, 0))
        self.fails_for(InvalidYard, ODD + ODD_LISTS + [0, 4, 5], lambda odd: greatest_loads(WEB, odd))


class TowardsTest(Case):
    def test_loads_towards(self):
        self.assertEqual(loads_towards(WEB, 2, 1), [[(3, 1, 1)], [(3, 1, 2)]])
        self.assertEqual(loads_towards(WEB, 2, 3), [[(1, 3, 1)]])
        self.assertEqual(loads_towards(target=0, yard=1, web=WEB), [[(2, 0, 1)], [(2, 0, 2)]])
        web = Web(FORK, [[(2, [(None, 3, 1)])]])
        self.assertEqual(loads_towards(web, 0, 1), [[(2, 1, 1)], [(2, 1, 1), (3, 1, 1)], [(2, 1, 2)], [(3, 1, 1)], [(3, 1, 2)]])
        self.assertEqual(loads_towards(web, 0, 3), [[(1, 3, 1)], [(2, 3, 1)]])

    def test_heaviest(self):
        self.assertEqual([heaviest(WEB, 2, 1), heaviest(WEB, 2, 3), heaviest(WEB, 1, 0)],
                         [[[(3, 1, 2)]], [[(1, 3, 1)]], [[(2, 0, 2)]]])
        web = Web(FORK, [[(2, [(None, 3, 1)]), (3, [(2, 1, 0)])]])
        self.assertEqual(heaviest(target=1, yard=0, web=web), [[(2, 1, 1), (3, 1, 1)], [(2, 1, 2)], [(3, 1, 3)]])

    def test_a_heaviest_one_need_not_be_greatest(self):
        web = Web(SHORT, [[(2, [(0, 2, 1)])]])
        self.assertEqual(heaviest(web, 1, 2), [[(0, 2, 1)]])
        self.assertEqual(greatest_loads(web, 1), [[(0, 2, 1), (2, 0, 1)], [(2, 0, 2)]])

    def test_lists_are_new(self):
        for call in [lambda: loads_towards(WEB, 2, 1), lambda: heaviest(WEB, 2, 1), lambda: greatest_loads(WEB, 2)]:
            wanted, told = call(), call()
            self.assertTrue(all(type(load) is list for load in told))
            told[0].append(1)
            told.append([])
            self.assertEqual(call(), wanted)


class GreatestTest(Case):
    def test_greatest_loads(self):
        self.assertEqual(greatest_loads(WEB, 2), [[(1, 3, 1), (3, 1, 1)], [(3, 1, 2)]])
        self.assertEqual(greatest_loads(yard=1, web=Web(SHORT, [[(1, [])]])), [[(0, 2, 1)], [(2, 0, 1)]])
        self.assertEqual(greatest_loads(Web(SHORT, [[(6, [(0, None, 0)]), (1, [])]]), 1), [[(0, 2, 1)], [(2, 0, 6)]])

    def test_just_400_and_one_more(self):
        loads = list(loads_up_to([1, 2, 3], 6))
        self.assertEqual([sum(slow_stands(book, load) for load in loads) for book in [JUST_400, ONE_MORE]], [400, 401])
        wanted = sorted(load for load in loads if slow_stands(JUST_400, load) and sum(n for _, _, n in load) == 5)
        self.assertEqual(greatest_loads(Web(FORK, [JUST_400]), 0), wanted)
        self.says(True, within(FORK, 0, JUST_400, [(5, [])]))
        self.says(True, within(FORK, 0, JUST_400, ONE_MORE))
        self.fails(TooMany, {"what": "loads", "limit": 400}, greatest_loads, Web(FORK, [ONE_MORE]), 0)
        for other in [JUST_400, ONE_MORE, [(1, [])]]:
            self.fails(TooMany, {"what": "loads", "limit": 400}, within, FORK, 0, ONE_MORE, other)

    def test_many_more(self):
        for call in [lambda: greatest_loads(Web(CROSS, [[(6, [])]]), 0), lambda: within(CROSS, 0, [(3, [])], [(1, [])]),
                     lambda: greatest_loads(Web(FULL, [[(6, [])] * 4] * 7), 7), lambda: within(CROSS, 0, [(6, [])] * 4, [(6, [])])]:
            self.fails(TooMany, {"what": "loads", "limit": 400}, call)
        self.says(False, within(CROSS, 0, [(2, [])], [(1, [])]))
        self.says(True, within(CROSS, 0, [(2, [])], [(6, [])]))

    def test_within(self):
        for book, other, wanted in [([(1, [])], SHY, True), (PLAIN, SHY, False), (SHY, PLAIN, True), (SHY, SHY, True),
                                    ([(2, [(1, 3, 1)])], SHY, True), ([(1, []), (2, [(1, None, 0)])], SHY, True),
                                    ([(3, [(3, None, 0)]), (1, [])], SHY, False)]:
            self.says(wanted, within(LINE, 2, book, other))
            self.says(wanted, within(other=tuple(other), book=tuple(book), yard=2, country=LINE))

    def test_wrong_inputs_of_within(self):
        self.fails_for(InvalidCountry, ODD, lambda odd: within(odd, 0, 0, 0))
        self.fails_for(InvalidYard, ODD + [0, 4, 5], lambda odd: within(LINE, odd, 0, 0))
        self.fails_for(InvalidBook, ODD + [[], [(0, [])], [(2, [(1, 3, 0)])]], lambda odd: within(LINE, 2, odd, 0))
        self.fails_for(InvalidBook, ODD + [[], [(0, [])]], lambda odd: within(CROSS, 0, [(6, [])], odd))


class FactsTest(Case):
    def test_against_all_loads(self):
        chance = random.Random(10)
        for _ in range(40):
            country = random_country(chance)
            yard = chance.choice(country.yards)
            around = country.neighbours(yard)
            pairs = [(a, b) for a in around for b in around if a != b]
            books = [random_book(chance, country.neighbours(place), 2 if len(around) == 4 else 3) for place in country.yards]
            web = Web(country, books)
            book = web.book(yard)
            standing = [load for load in loads_up_to(around, 3) if slow_stands(book, load)]
            greatest = sorted(load for load in standing if not any(
                slow_stands(book, with_cart(country, yard, load, *pair)) for pair in pairs))
            self.assertEqual(greatest_loads(web, yard), greatest)
            for target in around:
                towards = sorted(load for load in standing if load and all(entry[1] == target for entry in load))
                self.assertEqual(loads_towards(web, yard, target), towards)
                self.assertEqual(heaviest(web, yard, target), [load for load in towards if not any(
                    slow_stands(book, with_cart(country, yard, load, o, target)) for o in around if o != target)])
            other = random_book(chance, around, 3)
            self.says(all(slow_stands(other, load) for load in standing), within(country, yard, book, other))
            for load in loads_up_to(around, 2):
                self.says(any(at_most(load, great) for great in greatest), stands(country, yard, book, load))

    def test_what_a_web_lets(self):
        chance = random.Random(11)
        for _ in range(40):
            web = random_web(chance)
            for yard in web.country.yards:
                load = random_load(chance, web.country.neighbours(yard), 2)
                self.says(slow_stands(web.book(yard), load), lets(web, yard, load))


if __name__ == "__main__":
    unittest.main()
