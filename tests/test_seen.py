import random
import unittest

from helpers import LINE, ODD, ODD_LISTS, STAR, Case, loads_up_to, random_book, random_known
from helpers import slow_stands, slow_surely_let, slow_surely_refused
from lanekeepers.books import is_book
from lanekeepers.errors import Contrary, InvalidBook, InvalidCountry, InvalidKnown, InvalidLoad, InvalidWord, InvalidYard
from lanekeepers.errors import TooMany
from lanekeepers.seen import fits, is_known, is_let, noted
from wrong import BAD_BOOKS, BAD_LOADS, EACH_WAY, NO_COUNTRY, NO_KNOWNS, NO_YARD, ONE_CART, TWO_BACK, TWO_ON

NONE_SEEN = (2, [], [])
NO_WORDS = ["Let", "let ", "", "refuse", "le", "r", b"let", ["let"], ("let",), ["let", "refused"], "letrefused", 0, 1]


class IsKnownTest(Case):
    def good(self, *knowns):
        for known in knowns:
            with self.subTest(known=repr(known)):
                self.says(True, is_known(LINE, 2, known))
                self.says(True, is_known(value=known, yard=2, country=LINE))

    def test_knowns(self):
        self.good(*[(places, [], []) for places in range(1, 7)])
        self.good((2, [EACH_WAY], [TWO_ON]), (2, (tuple(EACH_WAY),), (tuple(TWO_ON),)), (2, [[], ONE_CART, TWO_ON], []),
                  (2, [TWO_ON, EACH_WAY, TWO_ON], [TWO_BACK]), (3, [[(1, 3, 2), (3, 1, 1)]], [[(3, 1, 2)], [(1, 3, 3)]]))

    def test_refused_loads_may_be_more_than_places(self):
        self.good((1, [], [TWO_ON]), (2, [TWO_ON], [[(1, 3, 3)]]), (2, [], [[(1, 3, 10 ** 29)]]), (1, [[], ONE_CART], [EACH_WAY]))

    def test_let_loads_up_to_the_places(self):
        self.good((6, [[(1, 3, 6)]], []), (2, [EACH_WAY, TWO_ON, TWO_BACK], []))
        self.says(False, is_known(LINE, 2, (6, [[(1, 3, 6), (3, 1, 1)]], [])))
        self.says(False, is_known(LINE, 2, (2, [TWO_ON, [(1, 3, 10 ** 29)]], [])))

    def test_twelve_loads_and_more(self):
        many = [[(1, 3, 6)]] * 6 + [[(3, 1, 4)]] * 6
        more = [[(1, 3, 1), (3, 1, 6)]] * 12
        self.good((6, many, []), (6, [], more), (6, many, more), (6, tuple(many), tuple(more)))
        self.says(False, is_known(LINE, 2, (6, many + [[]], more)))
        self.says(False, is_known(LINE, 2, (6, many, more + more[:1])))

    def test_no_knowns(self):
        for odd in NO_KNOWNS + ODD + ODD_LISTS + [LINE, {2: [], 3: []}]:
            with self.subTest(odd=repr(odd)):
                self.says(False, is_known(LINE, 2, odd))

    def test_of_the_yard(self):
        self.says(False, is_known(LINE, 1, (2, [EACH_WAY], [])))
        self.says(True, is_known(LINE, 1, (2, [[(0, 2, 1), (2, 0, 1)]], [])))
        self.says(False, is_known(LINE, 1, (2, [], [[(0, 2, 1)]])))
        self.says(True, is_known(STAR, 0, (1, [[(1, 2, 1)]], [[(1, 2, 1), (1, 3, 1)]])))


class IsLetTest(Case):
    def told(self, wanted, known, *loads):
        for load in loads:
            for passed in [load, tuple(load)]:
                self.says(wanted, is_let(LINE, 2, known, passed))
                self.says(wanted, is_let(load=passed, known=known, yard=2, country=LINE))

    def test_nothing_seen(self):
        self.told(True, NONE_SEEN, [], [(1, 3, 1)], [(3, 1, 1)])
        self.told(None, NONE_SEEN, TWO_ON, EACH_WAY, TWO_BACK)
        self.told(False, NONE_SEEN, [(1, 3, 3)], [(1, 3, 1), (3, 1, 2)], [(3, 1, 10 ** 29)])
        self.told(False, (1, [], []), TWO_ON, EACH_WAY)
        self.told(True, (1, [], []), [], ONE_CART)

    def test_at_most_one_that_was_let(self):
        known = (5, [[(1, 3, 3), (3, 1, 1)], [(3, 1, 2)]], [])
        self.told(True, known, [(1, 3, 3)], [(1, 3, 2)], [(1, 3, 3), (3, 1, 1)], [(1, 3, 1), (3, 1, 1)], [(3, 1, 2)])
        self.told(None, known, [(1, 3, 4)], [(1, 3, 3), (3, 1, 2)], [(1, 3, 1), (3, 1, 2)], [(3, 1, 3)], [(3, 1, 5)])
        self.told(False, known, [(3, 1, 6)], [(1, 3, 5), (3, 1, 1)])

    def test_a_refused_one_is_at_most_it(self):
        known = (5, [], [[(1, 3, 2), (3, 1, 1)], [(3, 1, 4)]])
        self.told(False, known, [(1, 3, 2), (3, 1, 1)], [(1, 3, 3), (3, 1, 1)], [(1, 3, 2), (3, 1, 2)], [(3, 1, 4)],
                  [(1, 3, 1), (3, 1, 4)])
        self.told(None, known, [(1, 3, 5)], [(1, 3, 1), (3, 1, 3)], [(3, 1, 3)], [(1, 3, 2)])
        self.told(True, known, [(3, 1, 1)], [])

    def test_a_single_cart_by_one_place(self):
        self.says(True, is_let(STAR, 0, (1, [], [[(1, 2, 2)]]), [(1, 2, 1)]))


class NotedTest(Case):
    def test_at_the_end_of_its_list(self):
        self.assertEqual(noted(LINE, 2, (2, [], [TWO_ON]), EACH_WAY, "let"), (2, [EACH_WAY], [TWO_ON]))
        self.assertEqual(noted(LINE, 2, (2, [EACH_WAY], [TWO_ON]), TWO_BACK, "let"), (2, [EACH_WAY, TWO_BACK], [TWO_ON]))
        self.assertEqual(noted(LINE, 2, (2, [EACH_WAY], [TWO_ON]), TWO_BACK, "refused"), (2, [EACH_WAY], [TWO_ON, TWO_BACK]))
        self.assertEqual(noted(word="let", load=(), known=(2, (), ()), yard=2, country=LINE), (2, [[]], []))
        self.assertEqual(noted(LINE, 2, (2, [TWO_ON], []), [(1, 3, 1)], "let"), (2, [TWO_ON, ONE_CART], []))

    def test_what_is_known_anyhow(self):
        self.assertEqual(noted(LINE, 2, (2, [TWO_ON], []), TWO_ON, "let"), (2, [TWO_ON, TWO_ON], []))
        self.assertEqual(noted(LINE, 2, (2, [], [TWO_ON]), TWO_ON, "refused"), (2, [], [TWO_ON, TWO_ON]))
        self.assertEqual(noted(LINE, 2, NONE_SEEN, [(1, 3, 9)], "refused"), (2, [], [[(1, 3, 9)]]))

    def test_lists_for_tuples_and_new(self):
        known = (2, (tuple(EACH_WAY),), ((tuple(TWO_ON)),))
        told = noted(LINE, 2, known, tuple(TWO_BACK), "let")
        self.assertEqual(told, (2, [EACH_WAY, TWO_BACK], [TWO_ON]))
        self.assertEqual([type(part) for part in (told, told[1], told[2], told[1][0], told[1][1], told[2][0])],
                         [tuple, list, list, list, list, list])
        one, other, more = list(EACH_WAY), list(TWO_ON), list(TWO_BACK)
        let, refused = [one], [other]
        told = noted(LINE, 2, (2, let, refused), more, "refused")
        for part in [told[1], told[2], told[1][0], told[2][0], told[2][1]]:
            part.append(1)
        self.assertEqual([let, refused, one, other, more], [[EACH_WAY], [TWO_ON], EACH_WAY, TWO_ON, TWO_BACK])

    def test_contrary(self):
        self.fails(Contrary, {}, noted, LINE, 2, (2, [], [TWO_ON]), TWO_ON, "let")
        self.fails(Contrary, {}, noted, LINE, 2, (3, [], [TWO_ON]), [(1, 3, 2), (3, 1, 1)], "let")
        self.fails(Contrary, {}, noted, LINE, 2, NONE_SEEN, [(1, 3, 3)], "let")
        for load in [[], ONE_CART, [(3, 1, 1)], TWO_ON]:
            self.fails(Contrary, {}, noted, LINE, 2, (2, [TWO_ON], []), load, "refused")
        self.assertEqual(noted(LINE, 2, (2, [TWO_ON], []), EACH_WAY, "refused"), (2, [TWO_ON], [EACH_WAY]))

    def test_twelve_loads(self):
        let, refused = [EACH_WAY] * 12, [TWO_ON] * 12
        self.assertEqual(noted(LINE, 2, (2, let[1:], refused), EACH_WAY, "let"), (2, let, refused))
        self.assertEqual(noted(LINE, 2, (2, let, refused[1:]), TWO_ON, "refused"), (2, let, refused))
        for load, word in [(EACH_WAY, "let"), ([], "let"), (TWO_BACK, "let"), (TWO_ON, "refused"), (TWO_BACK, "refused")]:
            self.fails(TooMany, {"what": "loads", "limit": 12}, noted, LINE, 2, (2, let, refused), load, word)
        self.assertEqual(len(noted(LINE, 2, (2, let, []), TWO_BACK, "refused")[2]), 1)
        # Contrary comes ahead of TooMany.
        self.fails(Contrary, {}, noted, LINE, 2, (2, let, refused), TWO_ON, "let")
        self.fails(Contrary, {}, noted, LINE, 2, (2, let, refused), EACH_WAY, "refused")


class FitsTest(Case):
    def test_fits(self):
        known = (2, [EACH_WAY], [TWO_ON])
        for book, wanted in [([(2, [(None, 3, 1)])], True), ([(2, [])], False), ([(1, [])], False),
                             ([(2, [(1, 3, 1)])], True), ([(3, [(1, 3, 1)])], False), ([(2, [(1, 3, 1)]), (1, [])], True),
                             ([(1, []), (2, [(1, 3, 1)])], True), ([(2, [(1, 3, 1)]), (3, [(1, None, 0)])], False),
                             ([(2, [(1, 3, 1)]), (2, [(3, None, 0)])], False)]:
            self.says(wanted, fits(LINE, 2, known, book))
            self.says(wanted, fits(book=tuple(book), known=known, yard=2, country=LINE))

    def test_places_of_alternatives_that_let_no_more(self):
        self.says(True, fits(LINE, 2, NONE_SEEN, [(2, [])]))
        self.says(False, fits(LINE, 2, NONE_SEEN, [(2, []), (3, [(1, None, 1), (3, None, 1)])]))
        self.says(True, fits(LINE, 2, (6, [], []), [(6, [])] * 4))

    def test_each_load_counts(self):
        self.says(False, fits(LINE, 2, (2, [EACH_WAY, TWO_ON], []), [(2, [(1, 3, 1)])]))
        self.says(False, fits(LINE, 2, (2, [], [TWO_BACK, TWO_ON]), [(2, [(3, 1, 1)])]))
        self.says(True, fits(LINE, 2, (2, [], [TWO_BACK, TWO_ON]), [(2, [(3, 1, 1), (1, 3, 1)])]))


class WrongInputsTest(Case):
    def test_in_their_sequence(self):
        country, yard = ("country", LINE, InvalidCountry, NO_COUNTRY), ("yard", 2, InvalidYard, NO_YARD)
        known = ("known", NONE_SEEN, InvalidKnown, NO_KNOWNS + ODD + ODD_LISTS)
        load = ("load", EACH_WAY, InvalidLoad, BAD_LOADS + ODD + ODD_LISTS)
        self.refuses(is_known, country, yard, ("value", None))
        self.refuses(is_let, country, yard, known, load)
        self.refuses(noted, country, yard, known, load, ("word", "let", InvalidWord, NO_WORDS + ODD + ODD_LISTS))
        self.refuses(fits, country, yard, known, ("book", [(2, [])], InvalidBook, BAD_BOOKS + ODD + ODD_LISTS))

    def test_a_wrong_word_ahead_of_contrary_and_too_many(self):
        self.fails(InvalidWord, {"value": "no"}, noted, LINE, 2, (2, [EACH_WAY] * 12, [TWO_ON] * 12), [(1, 3, 3)], "no")


class FactsTest(Case):
    def test_against_carts_one_by_one(self):
        chance = random.Random(30)
        for around, country, yard in [([1, 3], LINE, 2), ([1, 2, 3], STAR, 0)] * 15:
            known = random_known(chance, around, chance.randint(1, 4), 4, 4)
            self.says(True, is_known(country, yard, known))
            for load in loads_up_to(around, 3):
                let, refused = slow_surely_let(known, load), slow_surely_refused(known, load)
                self.assertFalse(let and refused)
                self.says(True if let else False if refused else None, is_let(country, yard, known, load))
                # Noted, it is sure.
                if not refused:
                    more = noted(country, yard, known, load, "let")
                    self.says(True, is_known(country, yard, more))
                    self.says(True, is_let(country, yard, more, load))
                if not let:
                    more = noted(country, yard, known, load, "refused")
                    self.says(True, is_known(country, yard, more))
                    self.says(False, is_let(country, yard, more, load))

    def test_books_that_fit(self):
        chance = random.Random(31)
        found = []
        for _ in range(400):
            book = random_book(chance, [1, 2, 3], 3)
            known = random_known(chance, [1, 2, 3], 3, 1, 1)
            self.says(True, is_book(STAR, 0, book))
            wanted = all(places <= 3 for places, _ in book) and all(slow_stands(book, load) for load in known[1])
            wanted = wanted and not any(slow_stands(book, load) for load in known[2])
            self.says(wanted, fits(STAR, 0, known, book))
            found.append(wanted)
            if wanted:
                for load in loads_up_to([1, 2, 3], 2):
                    stands = slow_stands(book, load)
                    self.assertIn(is_let(STAR, 0, known, load), [None, stands])
        self.assertTrue(50 < found.count(True) < 350)


if __name__ == "__main__":
    unittest.main()
