import random
import unittest

from helpers import FULL, LINE, ODD, ODD_LISTS, SHORT, STAR, Case, random_book, random_country
from lanekeepers.countries import Country
from lanekeepers.errors import InvalidBook, InvalidBooks, InvalidCountry, InvalidYard
from lanekeepers.webs import Web

PLAIN = [(2, [])]
SHY = [(2, [(None, 3, 1)])]


def web_of_line():
    return Web(LINE, [PLAIN, SHY, [(1, []), (3, [(2, 4, 1)])]])


class WebTest(Case):
    def test_parts(self):
        web = web_of_line()
        self.says(True, web.country == LINE)
        self.assertIs(type(web.country), Country)
        self.assertEqual(web.books, [PLAIN, SHY, [(1, []), (3, [(2, 4, 1)])]])
        self.assertEqual([web.book(1), web.book(2), web.book(yard=3)], web.books)
        self.assertEqual(Web(books=[[(6, [])]], country=SHORT).book(1), [(6, [])])

    def test_books_come_by_the_sequence_of_the_yards(self):
        country = Country([(5, 3), (3, 1), (1, 0), (0, 2), (0, 4)])
        web = Web(country, [[(1, [])], [(2, [])], [(3, [])]])
        self.assertEqual([web.book(yard) for yard in [0, 1, 3]], [[(1, [])], [(2, [])], [(3, [])]])
        self.assertEqual(web.books, [[(1, [])], [(2, [])], [(3, [])]])

    def test_tuples_for_lists(self):
        web = Web(LINE, (((2, ()),), ((2, ((None, 3, 1),)),), [(2, [])]))
        self.assertEqual(web.books, [PLAIN, SHY, PLAIN])
        self.assertTrue(all(type(book) is list and type(part) is tuple and type(part[1]) is list and type(web.books) is list
                            for book in web.books + [web.book(2)] for part in book))
        self.says(True, web == Web(LINE, [PLAIN, SHY, PLAIN]))

    def test_wrong_country(self):
        self.fails_for(InvalidCountry, ODD + ODD_LISTS + [LINE.lanes, web_of_line()], lambda odd: Web(odd, None))
        self.fails(InvalidCountry, {"value": "x"}, Web, books=[], country="x")

    def test_wrong_books(self):
        lists = [[], (), [PLAIN], [PLAIN] * 2, [PLAIN] * 4, [None] * 4, {1: PLAIN, 2: PLAIN, 3: PLAIN}, "abc", LINE]
        self.fails_for(InvalidBooks, ODD + [odd for odd in ODD_LISTS if len(odd) != 3] + lists, lambda odd: Web(LINE, odd))
        self.fails(InvalidBooks, {"value": (PLAIN,)}, Web, books=(PLAIN,), country=STAR)

    def test_first_book_that_is_none(self):
        odd_books = ODD + ODD_LISTS + [[], [(0, [])], [(2, [(1, 3, 0)])], [(2, [(0, 3, 1)])], [[2, []]], PLAIN * 5]
        for odd in odd_books:
            with self.subTest(odd=repr(odd)):
                self.fails(InvalidBook, {"value": odd}, Web, LINE, [PLAIN, odd, PLAIN])
                self.fails(InvalidBook, {"value": odd}, Web, LINE, (PLAIN, odd, None))
                self.fails(InvalidBook, {"value": odd}, Web, LINE, [odd, [(9, [])], PLAIN])
        self.fails(InvalidBook, {"value": [(2, [(None, 3, 1)])]}, Web, LINE, [SHY, PLAIN, PLAIN])
        self.fails(InvalidBooks, {"value": [None, PLAIN]}, Web, LINE, [None, PLAIN])

    def test_wrong_yard(self):
        self.fails_for(InvalidYard, ODD + ODD_LISTS + [0, 4, 5], web_of_line().book)
        self.fails(InvalidYard, {"value": True}, web_of_line().book, yard=True)

    def test_equal_by_country_and_books(self):
        self.says(True, web_of_line() == web_of_line())
        self.says(False, web_of_line() != web_of_line())
        self.says(True, Web(Country([(2, 1), (1, 0)]), [PLAIN]) == Web(SHORT, [PLAIN]))
        self.says(False, Web(LINE, [PLAIN] * 3) == Web(LINE, [PLAIN, SHY, PLAIN]))
        self.says(True, Web(LINE, [PLAIN] * 3) != Web(LINE, [PLAIN, SHY, PLAIN]))
        self.says(False, Web(SHORT, [[(2, []), (1, [])]]) == Web(SHORT, [[(1, []), (2, [])]]))
        self.says(False, Web(SHORT, [[(2, [(0, 2, 1), (2, 0, 1)])]]) == Web(SHORT, [[(2, [(2, 0, 1), (0, 2, 1)])]]))
        self.says(False, Web(SHORT, [PLAIN]) == Web(Country([(0, 2), (2, 1)]), [PLAIN]))
        crossed = Country([(0, 2), (2, 1), (1, 3), (3, 4)])
        self.says(False, Web(LINE, [PLAIN] * 3) == Web(crossed, [PLAIN] * 3))

    def test_not_equal_to_other_kinds(self):
        for odd in ODD + ODD_LISTS + [LINE, web_of_line().books, (LINE, web_of_line().books)]:
            self.says(False, web_of_line() == odd)
            self.says(True, web_of_line() != odd)
        self.says(False, LINE == web_of_line())

    def test_nothing_is_shared(self):
        bounds = [(None, 3, 1)]
        book = [(2, bounds)]
        books = [PLAIN, book, PLAIN]
        web, wanted = Web(LINE, books), Web(LINE, [PLAIN, SHY, PLAIN])
        bounds.append((1, None, 1))
        book.append((9, []))
        books.append(None)
        self.says(True, web == wanted)
        for told in [web.books[1], web.book(2)]:
            told[0][1].append("more")
            told.append("more")
        web.books.append("more")
        self.says(True, web == wanted)
        same = Web(LINE, [PLAIN] * 3).books
        same[0][0][1].append("more")
        self.assertEqual(same[1:], [PLAIN, PLAIN])
        self.assertEqual(PLAIN, [(2, [])])

    def test_many_webs_tell_what_they_were_told(self):
        chance = random.Random(8)
        for _ in range(40):
            country = random_country(chance)
            books = [random_book(chance, country.neighbours(yard)) for yard in country.yards]
            web = Web(country, tuple(books))
            self.assertEqual(web.books, books)
            self.says(True, web == Web(web.country, web.books))
        self.assertEqual(len(Web(FULL, [[(6, [])] * 4] * 7).books), 7)


if __name__ == "__main__":
    unittest.main()
