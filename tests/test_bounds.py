import random
import unittest

from helpers import FULL, LINE, SHORT, STAR, Case, bounded_book, bounded_web, random_web, slow_sides
from lanekeepers.bounds import bound_of, is_bounded, places_of
from lanekeepers.errors import InvalidTarget, InvalidWeb, InvalidYard, NotBounded
from lanekeepers.sides import is_plugged
from lanekeepers.webs import Web
from wrong import NO_WEB, NO_YARD, NO_YARD_AHEAD_OF_1, PLAIN_ROW

PLAIN = [(2, [])]
NARROW = Web(LINE, [PLAIN, [(3, [(None, 1, 2), (None, 3, 1)])], PLAIN])
MIXED = Web(LINE, [[(2, [(0, None, 1)])], PLAIN, PLAIN])


def with_book(book):
    return Web(LINE, [PLAIN, book, PLAIN])


class BoundedTest(Case):
    def test_bounded(self):
        for book in [PLAIN, [(3, [(None, 1, 2), (None, 3, 1)])], [(3, [(None, 3, 1), (None, 1, 2)])], [(2, [(None, 3, 2)])],
                     [(6, [(None, 3, 6), (None, 1, 6)])], [(1, [(None, 3, 1)])]]:
            self.says(True, is_bounded(with_book(book)))
            self.says(True, is_bounded(web=with_book(book)))
        self.says(True, is_bounded(Web(SHORT, [PLAIN])))
        self.says(True, is_bounded(Web(STAR, [[(2, [(None, 3, 1), (None, 1, 2), (None, 2, 1)])], PLAIN, PLAIN, PLAIN])))

    def test_a_single_thing_keeps_it_from_being_so(self):
        for book in [[(2, []), (2, [])], [(2, [(1, None, 1)])], [(2, [(1, 3, 1)])], [(2, [(None, 3, 3)])], [(1, [(None, 3, 2)])],
                     [(2, [(None, 3, 1), (None, 3, 1)])], [(2, [(None, 3, 1), (None, 3, 2)])],
                     [(2, [(None, 3, 1), (None, 1, 1), (None, 3, 1)])], [(2, [(None, 1, 1), (3, None, 1)])],
                     [(2, [(None, 3, 1), (1, 3, 1)])]]:
            self.says(False, is_bounded(with_book(book)))
        # A bound for the carts that go out.
        self.says(False, is_bounded(Web(LINE, [[(2, [(None, 0, 1)])], PLAIN, PLAIN])))
        self.says(False, is_bounded(Web(LINE, [PLAIN, PLAIN, [(2, [(None, 2, 1), (None, 4, 1)])]])))
        self.says(False, is_bounded(MIXED))
        self.says(False, is_bounded(Web(SHORT, [[(2, [(None, 2, 1)])]])))

    def test_no_bound_of_none(self):
        # A book with such a bound needs another alternative.
        self.says(False, is_bounded(with_book([(2, [(None, 3, 0)]), (1, [])])))

    def test_places_and_bounds(self):
        self.assertEqual([places_of(NARROW, yard) for yard in [1, 2, 3]], [2, 3, 2])
        self.assertEqual([bound_of(NARROW, 2, 1), bound_of(NARROW, 2, 3), bound_of(NARROW, 1, 2), bound_of(NARROW, 3, 2)],
                         [2, 1, 2, 2])
        self.assertEqual([places_of(yard=2, web=NARROW), bound_of(target=1, yard=2, web=NARROW)], [3, 2])
        self.assertEqual([places_of(Web(SHORT, [[(6, [])]]), 1), bound_of(with_book([(4, [(None, 1, 4)])]), 2, 1)], [6, 4])
        star = Web(STAR, [[(5, [(None, 3, 1), (None, 1, 4)])], PLAIN, PLAIN, [(1, [])]])
        self.assertEqual([bound_of(star, 0, near) for near in [1, 2, 3]] + [bound_of(star, 3, 0)], [4, 5, 1, 1])


class WrongInputsTest(Case):
    def test_in_their_sequence(self):
        for good in [PLAIN_ROW, MIXED]:
            web, yard = ("web", good, InvalidWeb, NO_WEB), ("yard", 1, InvalidYard, NO_YARD)
            self.refuses(is_bounded, web)
            # The errors of the parameters come ahead of NotBounded.
            self.refuses(places_of, web, yard)
            self.refuses(bound_of, web, yard, ("target", 2, InvalidTarget, NO_YARD_AHEAD_OF_1))

    def test_not_bounded(self):
        for web in [MIXED, with_book([(2, []), (2, [])]), with_book([(2, [(None, 3, 1), (None, 3, 1)])])]:
            for yard in [1, 2, 3]:
                self.fails(NotBounded, {}, places_of, web, yard)
                self.fails(NotBounded, {}, places_of, yard=yard, web=web)
            for side in slow_sides(LINE):
                self.fails(NotBounded, {}, bound_of, web, *side)
        self.fails(InvalidTarget, {"value": 0}, bound_of, MIXED, 1, 0)


class FactsTest(Case):
    def test_plugged_exactly_if_the_bound_is_the_places(self):
        chance = random.Random(35)
        found = []
        for _ in range(40):
            web = bounded_web(chance, 4)
            self.says(True, is_bounded(web))
            for yard, target in slow_sides(web.country):
                self.says(bound_of(web, yard, target) == places_of(web, yard), is_plugged(web, yard, target))
                found.append(is_plugged(web, yard, target))
                told = [most for _, end, most in web.book(yard)[0][1] if end == target]
                self.assertEqual(bound_of(web, yard, target), (told + [places_of(web, yard)])[0])
        self.assertTrue(20 < found.count(True) < len(found) - 20)

    def test_one_book_of_another_kind(self):
        chance = random.Random(36)
        for _ in range(30):
            web = random_web(chance)
            books = web.books
            plain = [bounded_book(chance, web.country, yard) for yard in web.country.yards]
            for at, yard in enumerate(web.country.yards):
                mixed = Web(web.country, plain[:at] + [books[at]] + plain[at + 1:])
                bounds = books[at][0][1]
                targets = [target for _, target, _ in bounds]
                wanted = len(books[at]) == 1 and len(set(targets)) == len(targets) and all(
                    origin is None and target in web.country.yards and 0 < most <= books[at][0][0]
                    for origin, target, most in bounds)
                self.says(wanted, is_bounded(mixed))
        self.says(True, is_bounded(Web(FULL, [[(6, [])]] * 7)))


if __name__ == "__main__":
    unittest.main()
