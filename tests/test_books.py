import random
import unittest

from helpers import FULL, LINE, ODD, ODD_LISTS, SHORT, STAR, Case, loads_up_to, random_book, random_country, random_load
from helpers import slow_stands
from lanekeepers.books import both, either, is_book, stands
from lanekeepers.errors import InvalidBook, InvalidCountry, InvalidLoad, InvalidYard, TooMany

SHY = [(2, [(None, 3, 1)])]
PLAIN = [(2, [])]
CROSS = [(1, 2), (0, 1), (3, 1), (1, 4)]
LIST_FOR_TUPLE = [[[2, []]], [(2, [[None, 3, 1]])], [[2, [(None, 3, 1)]]]]


class IsBookTest(Case):
    def good(self, *books):
        for book in books:
            with self.subTest(book=repr(book)):
                self.says(True, is_book(LINE, 2, book))

    def bad(self, *books):
        for book in books:
            with self.subTest(book=repr(book)):
                self.says(False, is_book(LINE, 2, book))
                self.fails(InvalidBook, {"value": book}, stands, LINE, 2, book, [])

    def test_examples_of_each_form(self):
        self.good(SHY, PLAIN, ((2, ((None, 3, 1),)),), [(2, ((1, 3, 1),))], ((1, []),), [(3, [(1, None, 2), (1, 3, 1)])])
        self.says(True, is_book(value=PLAIN, yard=2, country=LINE))

    def test_places(self):
        self.good(*[[(places, [])] for places in range(1, 7)])
        for places in [0, 7, 10 ** 29, -1, True, False, None, "2", [2], (2,)]:
            self.bad([(places, [])], [(2, []), (places, [])], [(places, []), (2, [])])

    def test_most(self):
        self.good(*[[(2, [(1, 3, most)])] for most in range(1, 7)])
        self.good([(2, [(1, 3, 0)]), (1, [])])
        self.bad(*[[(2, [(1, 3, most)])] for most in [7, 10 ** 29, -1, True, None, "2", [2]]])
        self.bad([(2, [(1, 3, False)]), (1, [])])

    def test_origin_and_target(self):
        self.good([(2, [(None, 1, 1)])], [(2, [(3, None, 1)])], [(2, [(3, 1, 1)])])
        self.bad([(2, [(None, None, 1)])], [(2, [(1, 1, 1)])], [(2, [(2, 1, 1)])], [(2, [(1, 2, 1)])], [(2, [(0, None, 1)])],
                 [(2, [(None, 4, 1)])], [(2, [(1, 4, 1)])], [(2, [(True, 3, 1)])], [(2, [(3, True, 1)])],
                 [(2, [(None, True, 1)])], [(2, [(True, None, 1)])], [(2, [("1", 3, 1)])], [(2, [([1], 3, 1)])],
                 [(2, [(10 ** 29, 3, 1)])], [(2, [(False, None, 1)])], [(2, [({}, 3, 1)])])

    def test_how_many_bounds(self):
        self.good([(2, [(1, 3, 1)] * 6)], [(2, [(1, 3, 1)] * 6), (2, [(3, 1, 1)] * 6)])
        self.bad([(2, [(1, 3, 1)] * 7)], [(2, []), (2, [(1, 3, 1)] * 7)])

    def test_how_many_alternatives(self):
        self.good(*[[(2, [])] * many for many in range(1, 5)])
        self.bad([], (), [(2, [])] * 5)

    def test_lists_and_tuples(self):
        self.good([(2, ((None, 3, 1),))], ((2, [(None, 3, 1)]),))
        self.bad(*LIST_FOR_TUPLE)
        self.bad([(2, {})], [(2, None)], [(2, "")], {(2, ()): 1}, [(2,)], [(2, [], [])], [(2, [(1, 3)])], [(2, [(1, 3, 1, 1)])],
                 [(2, [()])], [()], [None], [2], (2, []))

    def test_any_value(self):
        self.bad(*ODD, *ODD_LISTS, LINE)
        for odd in ODD + ODD_LISTS + [LINE]:
            self.bad([odd], [(2, []), odd], [(2, [odd])], [(2, odd)] if odd != [] and odd != () else [(0, [])])

    def test_each_single_cart_stands(self):
        self.bad([(2, [(1, 3, 0)])], [(2, [(None, 3, 0)])], [(2, [(3, None, 0)])], [(2, [(1, 3, 0)]), (1, [(1, None, 0)])])
        self.good([(2, [(1, 3, 0)]), (1, [(3, 1, 0)])], [(2, [(1, None, 0)]), (1, [(None, 1, 0)])])
        three_ways = [(1, [(1, None, 0)]), (1, [(2, None, 0)])]
        self.says(True, is_book(STAR, 0, three_ways))
        self.says(True, is_book(STAR, 0, [(1, [(1, 2, 0)]), (1, [(1, 3, 0)])]))
        self.says(False, is_book(STAR, 0, [(1, [(1, None, 0)]), (1, [(1, 3, 0)])]))

    def test_neighbours_of_this_yard(self):
        self.says(True, is_book(LINE, 1, [(2, [(0, 2, 1)])]))
        self.says(False, is_book(LINE, 2, [(2, [(0, 2, 1)])]))
        self.says(True, is_book(FULL, 7, [(6, [(6, 20, 1), (22, None, 3), (None, 21, 6)])]))
        self.says(False, is_book(SHORT, 1, SHY))


class StandsTest(Case):
    def test_places_and_bounds(self):
        for load, wanted in [([], True), ([(1, 3, 1)], True), ([(1, 3, 1), (3, 1, 1)], True), ([(1, 3, 2)], False),
                             ([(3, 1, 2)], True), ([(3, 1, 3)], False), ([(1, 3, 1), (3, 1, 2)], False)]:
            self.says(wanted, stands(LINE, 2, SHY, load))
        self.says(True, stands(load=((3, 1, 2),), book=((2, ()),), yard=2, country=LINE))
        self.says(False, stands(LINE, 2, PLAIN, [(1, 3, 10 ** 29)]))
        self.says(True, stands(LINE, 2, [(6, [])], [(1, 3, 6)]))
        self.says(False, stands(LINE, 2, [(6, [])], [(1, 3, 6), (3, 1, 1)]))

    def test_any_origin_or_target_counts_them_all(self):
        book = [(4, [(None, 3, 2), (2, None, 1)])]
        for load, wanted in [([(1, 3, 1), (2, 3, 1)], True), ([(1, 3, 2), (2, 3, 1)], False), ([(2, 1, 1), (2, 3, 1)], False),
                             ([(1, 2, 4)], True), ([(1, 2, 4), (3, 1, 1)], False)]:
            self.says(wanted, stands(STAR, 0, book, load))

    def test_one_alternative_is_enough(self):
        book = [(1, []), (3, [(1, 3, 0)]), (2, [(3, None, 0)])]
        for load, wanted in [([(3, 1, 3)], True), ([(1, 3, 1)], True), ([(1, 3, 2)], True), ([(1, 3, 1), (3, 1, 1)], False),
                             ([(1, 3, 3)], False)]:
            self.says(wanted, stands(LINE, 2, book, load))

    def test_wrong_inputs(self):
        for call in [lambda odd: stands(odd, 0, 0, 0), lambda odd: is_book(odd, 0, 0), lambda odd: either(odd, 0, 0, 0),
                     lambda odd: both(odd, 0, 0, 0), lambda odd: is_book(value=0, yard=0, country=odd)]:
            self.fails_for(InvalidCountry, ODD + ODD_LISTS, call)
        for call in [lambda odd: stands(LINE, odd, 0, 0), lambda odd: is_book(LINE, odd, 0), lambda odd: either(LINE, odd, 0, 0),
                     lambda odd: both(LINE, odd, 0, 0), lambda odd: stands(load=0, book=0, yard=odd, country=LINE)]:
            self.fails_for(InvalidYard, ODD + ODD_LISTS + [0, 4, 5], call)
        odd_books = ODD + ODD_LISTS + LIST_FOR_TUPLE + [[], [(0, [])], [(2, [(1, 3, 0)])]]
        for call in [lambda odd: stands(LINE, 2, odd, 0), lambda odd: either(LINE, 2, odd, 0), lambda odd: both(LINE, 2, odd, 0),
                     lambda odd: either(LINE, 2, PLAIN, odd), lambda odd: both(LINE, 2, PLAIN, odd),
                     lambda odd: both(other=odd, book=PLAIN, yard=2, country=LINE)]:
            self.fails_for(InvalidBook, odd_books, call)

    def test_wrong_loads(self):
        loads = [[(1, 3, 0)], [(1, 3, True)], [(1, 3, -1)], [(1, 3, "1")], [(3, 1, 1), (1, 3, 1)], [(1, 3, 1), (1, 3, 1)],
                 [(1, 3, 1), (1, 3, 2)], [[1, 3, 1]], [(1, 1, 1)], [(1, 2, 1)], [(0, 3, 1)], [(1, 4, 1)], [(True, 3, 1)],
                 [(None, 3, 1)], [(1, None, 1)], [(1, 3)], [(1, 3, 1, 1)], [()], {(1, 3, 1): 1}, [(3, True, 1)], [([1], 3, 1)]]
        self.fails_for(InvalidLoad, ODD + ODD_LISTS + loads, lambda odd: stands(LINE, 2, PLAIN, odd))
        self.fails_for(InvalidLoad, loads, lambda odd: stands(load=odd, book=SHY, yard=2, country=LINE))


class EitherTest(Case):
    def test_the_alternatives_of_both_in_sequence(self):
        self.assertEqual(either(LINE, 2, PLAIN, SHY), [(2, []), (2, [(None, 3, 1)])])
        self.assertEqual(either(LINE, 2, SHY, PLAIN), [(2, [(None, 3, 1)]), (2, [])])
        self.assertEqual(either(other=((1, ()), (2, ((1, 3, 1),))), book=SHY, yard=2, country=LINE),
                         [(2, [(None, 3, 1)]), (1, []), (2, [(1, 3, 1)])])

    def test_at_the_limit_and_above(self):
        for one, other in [(1, 3), (2, 2), (3, 1)]:
            self.assertEqual(either(LINE, 2, PLAIN * one, PLAIN * other), PLAIN * 4)
        for one, other in [(1, 4), (2, 3), (3, 2), (4, 4)]:
            self.fails(TooMany, {"what": "alternatives", "limit": 4}, either, LINE, 2, PLAIN * one, PLAIN * other)
        self.assertEqual(either(LINE, 2, [(2, [(1, 3, 1)] * 6)], [(2, [(1, 3, 1)] * 6)]), [(2, [(1, 3, 1)] * 6)] * 2)
        self.fails(InvalidBook, {"value": PLAIN * 5}, either, LINE, 2, PLAIN * 4, PLAIN * 5)

    def test_kinds_and_own_lists(self):
        for call in [either, both]:
            one = [(2, [(None, 3, 1)])]
            told = call(LINE, 2, one, one * 2)
            self.assertIs(type(told), list)
            for places, bounds in told:
                self.assertIs(type(bounds), list)
                bounds.append("more")
            self.assertTrue(all(bounds.count("more") == 1 for _, bounds in told))
            told.append("more")
            self.assertEqual(one, SHY)
            self.assertNotEqual(call(LINE, 2, one, one * 2), told)
            self.assertTrue(all(type(alternative) is tuple and type(alternative[1]) is list
                                for alternative in call(LINE, 2, ((2, ()),), ((1, ()),))))


class BothTest(Case):
    def test_each_with_each(self):
        self.assertEqual(both(LINE, 2, SHY, [(3, [(1, None, 1)])]), [(2, [(None, 3, 1), (1, None, 1)])])
        self.assertEqual(both(LINE, 2, [(3, [(1, None, 1)])], SHY), [(2, [(1, None, 1), (None, 3, 1)])])
        one, other = [(1, [(1, 3, 1)]), (4, [])], [(3, [(3, 1, 2)]), (2, [(None, 3, 5)])]
        wanted = [(1, [(1, 3, 1), (3, 1, 2)]), (1, [(1, 3, 1), (None, 3, 5)]), (3, [(3, 1, 2)]), (2, [(None, 3, 5)])]
        self.assertEqual(both(LINE, 2, one, other), wanted)
        self.assertEqual(both(other=tuple(other), book=tuple(one), yard=2, country=LINE), wanted)

    def test_at_the_limits_and_above(self):
        for one, other in [(1, 4), (2, 2), (4, 1)]:
            self.assertEqual(both(LINE, 2, PLAIN * one, PLAIN * other), PLAIN * 4)
        for one, other in [(2, 3), (3, 2), (4, 4), (4, 2)]:
            self.fails(TooMany, {"what": "alternatives", "limit": 4}, both, LINE, 2, PLAIN * one, PLAIN * other)
        bound = (1, 3, 1)
        self.assertEqual(both(LINE, 2, [(2, [bound] * 3)], [(2, [bound] * 3)]), [(2, [bound] * 6)])
        self.assertEqual(both(LINE, 2, [(2, [bound] * 6)], PLAIN), [(2, [bound] * 6)])
        for one, other in [(3, 4), (6, 1), (1, 6), (6, 6)]:
            self.fails(TooMany, {"what": "bounds", "limit": 6}, both, LINE, 2, [(2, [bound] * one)], [(2, [bound] * other)])
        self.fails(TooMany, {"what": "bounds", "limit": 6}, both, LINE, 2, [(2, []), (2, [bound] * 4)], [(2, []), (2, [bound] * 3)])

    def test_alternatives_come_ahead_of_bounds(self):
        many = [(2, [(1, 3, 1)] * 6)]
        self.fails(TooMany, {"what": "alternatives", "limit": 4}, both, LINE, 2, many * 3, many * 2)
        self.fails(InvalidBook, {"value": many * 5}, both, LINE, 2, many, many * 5)


class FactsTest(Case):
    def test_what_stands(self):
        chance = random.Random(6)
        for _ in range(30):
            country = random_country(chance)
            yard = chance.choice(country.yards)
            around = country.neighbours(yard)
            book, other = random_book(chance, around), random_book(chance, around)
            self.says(True, is_book(country, yard, book))
            loads = list(loads_up_to(around, 3)) if len(around) < 4 else [random_load(chance, around) for _ in range(60)]
            one_of_them, each_of_them = either(country, yard, book, other), both(country, yard, book, other)
            self.says(True, is_book(country, yard, one_of_them))
            self.says(True, is_book(country, yard, each_of_them))
            for load in loads:
                here, there = stands(country, yard, book, load), stands(country, yard, other, load)
                self.says(slow_stands(book, load), here)
                self.says(here or there, stands(country, yard, one_of_them, load))
                self.says(here and there, stands(country, yard, each_of_them, load))

    def test_what_is_at_most_a_load_that_stands_stands(self):
        chance = random.Random(7)
        for _ in range(40):
            around = [1, 3]
            book = random_book(chance, around)
            for load in loads_up_to(around, 4):
                if stands(LINE, 2, book, load):
                    for at, (origin, target, many) in enumerate(load):
                        less = load[:at] + ([(origin, target, many - 1)] if many > 1 else []) + load[at + 1:]
                        self.says(True, stands(LINE, 2, book, less))

    def test_arguments_stay_as_they_were(self):
        book, load = [(2, [(None, 3, 1)])], [(1, 3, 1)]
        for call in [either, both]:
            call(LINE, 2, book, book)
        stands(LINE, 2, book, load)
        is_book(LINE, 2, book)
        self.assertEqual((book, load), ([(2, [(None, 3, 1)])], [(1, 3, 1)]))


if __name__ == "__main__":
    unittest.main()
