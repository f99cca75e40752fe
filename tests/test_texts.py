import random
import unittest

from helpers import FULL, LINE, ODD, ODD_LISTS, SHORT, STAR, Case, random_book, random_country, random_walk, random_web
from lanekeepers.countries import Country
from lanekeepers.errors import InvalidBook, InvalidCountry, InvalidStand, InvalidSteps, InvalidWeb, InvalidYard
from lanekeepers.readers import book_of, country_of, stand_of, steps_of, web_of
from lanekeepers.texts import book_text, country_text, stand_text, steps_text, web_text
from lanekeepers.webs import Web
from wrong import BAD_BOOKS, NO_CARTS, NO_COUNTRY, NO_STANDS, NO_STEP_LISTS, NO_WEB, NO_YARD, PLAIN_ROW

PLAIN = [(2, [])]


class WrittenTest(Case):
    def test_countries(self):
        for country, wanted in [(SHORT, "0-1, 1-2"), (LINE, "0-1, 1-2, 2-3, 3-4"), (STAR, "0-1, 0-2, 0-3, 1-4, 2-5, 3-6"),
                                (Country([(2, 1), (0, 1), (2, 3)]), "0-1, 1-2, 2-3"),
                                (FULL, "0-1, 1-2, 1-8, 1-9, 2-3, 2-10, 2-11, 3-4, 3-12, 3-13, 4-5, 4-14, 4-15, 5-6, 5-16, "
                                       "5-17, 6-7, 6-18, 6-19, 7-20, 7-21, 7-22")]:
            self.assertEqual([country_text(country), country_text(country=country)], [wanted, wanted])

    def test_books(self):
        for book, wanted in [(PLAIN, "2"), ([(3, [(1, 3, 1), (None, 1, 2)]), (2, [])], "3, 1<1>3, 2>1; 2"),
                             ([(6, [(3, None, 4)])], "6, 4<3"), ([(2, [(None, 3, 0)]), (1, [])], "2, 0>3; 1"),
                             (((1, ()), (2, ((None, 1, 2), (None, 1, 1)))), "1; 2, 2>1, 1>1"),
                             ([(6, [])] * 4, "6; 6; 6; 6")]:
            self.assertEqual([book_text(LINE, 2, book), book_text(book=book, yard=2, country=LINE)], [wanted, wanted])

    def test_webs(self):
        for web, wanted in [(PLAIN_ROW, "0-1, 1-2, 2-3, 3-4 | 2 | 2 | 2"),
                            (Web(SHORT, [[(2, [(None, 2, 1)]), (1, [])]]), "0-1, 1-2 | 2, 1>2; 1"),
                            (Web(Country([(0, 1), (1, 2), (2, 3)]), [[(2, [(None, 2, 1)])], PLAIN]), "0-1, 1-2, 2-3 | 2, 1>2 | 2"),
                            (Web(Country([(1, 2), (2, 0), (0, 3)]), [[(1, [])], [(5, [])]]), "0-2, 0-3, 1-2 | 1 | 5")]:
            self.assertEqual([web_text(web), web_text(web=web)], [wanted, wanted])

    def test_stands(self):
        for stand, wanted in [([], "-"), ((), "-"), ([(1, 0, 4)], "1:0>4"),
                              ([(2, 4, 0), (1, 0, 4), (2, 0, 4), (1, 0, 4)], "1:0>4, 1:0>4, 2:0>4, 2:4>0")]:
            self.assertEqual([stand_text(PLAIN_ROW, stand), stand_text(stand=stand, web=PLAIN_ROW)], [wanted, wanted])
        self.assertEqual(stand_text(Web(FULL, [PLAIN] * 7), [(2, 22, 10), (2, 8, 10)]), "2:8>10, 2:22>10")

    def test_steps(self):
        for steps, wanted in [([], "-"), ((), "-"), ([("in", 0, 4)], "in 0>4"), ([("on", 3, 4, 0)], "on 3:4>0"),
                              ([("on", 3, 4, 0), ("in", 0, 4), ("in", 0, 4)], "on 3:4>0, in 0>4, in 0>4")]:
            self.assertEqual([steps_text(LINE, steps), steps_text(steps=steps, country=LINE)], [wanted, wanted])
        # Whether or not they can be done.
        self.assertEqual(steps_text(LINE, [("on", 1, 0, 4)] * 400), ", ".join(["on 1:0>4"] * 400))

    def test_arguments_stay(self):
        stand = [(2, 4, 0), (1, 0, 4)]
        stand_text(PLAIN_ROW, stand)
        self.assertEqual(stand, [(2, 4, 0), (1, 0, 4)])


class WrongInputsTest(Case):
    def test_in_their_sequence(self):
        country, web = ("country", LINE, InvalidCountry, NO_COUNTRY), ("web", PLAIN_ROW, InvalidWeb, NO_WEB)
        self.refuses(country_text, country)
        books = ODD + ODD_LISTS + BAD_BOOKS
        self.refuses(book_text, country, ("yard", 2, InvalidYard, NO_YARD), ("book", PLAIN, InvalidBook, books))
        self.refuses(web_text, web)
        stands = NO_STANDS + ODD + ODD_LISTS + [[cart] for cart in NO_CARTS]
        self.refuses(stand_text, web, ("stand", [], InvalidStand, stands))
        self.refuses(steps_text, country, ("steps", [], InvalidSteps, NO_STEP_LISTS + [[("in", 0, 4)] * 401]))

    def test_a_book_of_another_yard(self):
        self.fails(InvalidBook, {"value": [(2, [(None, 1, 1)])]}, book_text, LINE, 1, [(2, [(None, 1, 1)])])
        self.assertEqual(book_text(LINE, 2, [(2, [(None, 1, 1)])]), "2, 1>1")


class ThereAndBackTest(Case):
    def test_what_is_written_is_read_again(self):
        chance = random.Random(51)
        for _ in range(80):
            web = random_web(chance)
            country = web.country
            self.says(True, country_of(country_text(country)) == country)
            self.says(True, web_of(web_text(web)) == web)
            yard = chance.choice(country.yards)
            book = random_book(chance, country.neighbours(yard))
            self.assertEqual(book_of(country, yard, book_text(country, yard, book)), book)
            steps, stands = random_walk(chance, web, 40)
            self.assertEqual(steps_of(country, steps_text(country, steps)), steps)
            for stand in stands:
                self.assertEqual(stand_of(web, stand_text(web, chance.sample(stand, len(stand)))), stand)

    def test_the_greatest(self):
        chance = random.Random(52)
        for _ in range(10):
            country = random_country(chance)
            steps = [("in",) + tuple(chance.sample(country.gates, 2)) for _ in range(400)]
            self.assertEqual(steps_of(country, steps_text(country, steps)), steps)
        web = Web(FULL, [[(6, [(near, None, 6) for near in FULL.neighbours(yard)])] * 4 for yard in FULL.yards])
        self.says(True, web_of(web_text(web)) == web)


if __name__ == "__main__":
    unittest.main()
