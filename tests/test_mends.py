import itertools
import random
import unittest

from helpers import LINE, ODD, ODD_LISTS, SHORT, STAR, Case, bounded_web, slow_is_towards, slow_sides
from lanekeepers.bounds import bound_of, is_bounded, places_of
from lanekeepers.errors import InvalidMends, InvalidPost, InvalidPrices, InvalidWeb, NotBounded
from lanekeepers.mends import cheapest, cheapest_mends, mended, price
from lanekeepers.posts import posts
from lanekeepers.sides import plugged_sides
from lanekeepers.webs import Web
from wrong import NO_WEB, NO_YARD, PLAIN_ROW

PLAIN = [(2, [])]
COSTS = [(3, 1), (5, 2), [4, 4]]
MIXED = Web(LINE, [[(2, [(0, None, 1)])], PLAIN, PLAIN])
NO_MENDS = [[("place", 1, 0)], [("place", 0, 1)], [("place", 1, 3)], [("place", 1, 1)], [("Place", 1, 2)], [("places", 1, 2)],
            [["place", 1, 2]], [("place", 1)], [("place", 1, 2, 2)], [("place", True, 2)], [("place", 1, None)], [(1, 2)],
            [("bound", 1, 2), ("place", 1, 2)], [("bound", 2, 1), ("bound", 2, 3)], [("bound", 1, 2)] * 2,
            [("bound", 1, 2), None], ("bound", 1, 2), {("bound", 1, 2): 1}, [("bound", "1", 2)], [("bound", 1, 10 ** 29)],
            [(None, 1, 2)], [(["bound"], 1, 2)], [(b"bound", 1, 2)], [("bound", [1], 2)], [("bound", (1, 2))], ["bound"]]
NO_PRICES = [[(1, 1)] * 2, [(1, 1)] * 4, [(1, 1), (1, 1), (1,)], [(1, 1), (1, 1), (1, 1, 1)], [(1, 1), (1, -1), (1, 1)],
             [(1, 1), (1, 1), (True, 1)], [(1, 1), (1, 1), (1, False)], [(1, 1), None, (1, 1)], [1, 1, 1], [(1, 1), (1, 1), "11"],
             [("1", 1), (1, 1), (1, 1)], {1: (1, 1)}, [(1, 1), (1, 1), {1: 1, 2: 2}], [(1, None)] * 3, [], (), "abc"]


def row_with(*books):
    return Web(LINE, [book for book in books])


class MendedTest(Case):
    def told(self, books, web, mends):
        for made in [mended(web, mends), mended(mends=tuple(mends), web=web)]:
            self.assertIs(type(made), Web)
            self.assertEqual(made.books, books)
            self.says(True, made.country == web.country)
            self.says(True, is_bounded(made))

    def test_one_place_more(self):
        self.told([PLAIN, PLAIN, [(3, [(None, 2, 2)])]], PLAIN_ROW, [("place", 3, 2)])
        self.told([PLAIN, [(3, [(None, 1, 2)])], PLAIN], PLAIN_ROW, [("place", 2, 1)])
        # The other bound, that was all places, is so now, too; one that was less stays.
        self.told([PLAIN, [(3, [(None, 3, 2)])], PLAIN], row_with(PLAIN, [(2, [(None, 1, 2)])], PLAIN), [("place", 2, 3)])
        self.told([PLAIN, [(3, [(None, 1, 1), (None, 3, 2)])], PLAIN], row_with(PLAIN, [(2, [(None, 1, 1)])], PLAIN),
                  [("place", 2, 3)])

    def test_one_less_in_the_bound(self):
        self.told([[(2, [(None, 2, 1)])], PLAIN, PLAIN], PLAIN_ROW, [("bound", 1, 2)])
        self.told([PLAIN, [(4, [(None, 1, 2), (None, 3, 3)])], PLAIN], row_with(PLAIN, [(4, [(None, 3, 4), (None, 1, 2)])], PLAIN),
                  [("bound", 2, 3)])

    def test_told_anew(self):
        # By rising targets, without those that are as many as the places; just the book of the mended yard.
        center = [(3, [(None, 3, 2), (None, 2, 3), (None, 1, 1)])]
        other = [(2, [(None, 0, 2)])]
        web = Web(STAR, [center, other, other, other])
        self.told([[(3, [(None, 1, 1), (None, 2, 2), (None, 3, 2)])], other, other, other], web, [("bound", 0, 2)])
        self.told([[(4, [(None, 1, 1), (None, 2, 3), (None, 3, 2)])], other, other, other], web, [("place", 0, 2)])
        self.told([center, other, [(2, [(None, 0, 1)])], other], web, [("bound", 2, 0)])
        self.told([center, other, [(3, [(None, 0, 2)])], other], web, [("place", 2, 0)])

    def test_bounds_as_many_as_the_places(self):
        web = Web(STAR, [[(2, [(None, 1, 2), (None, 2, 2), (None, 3, 2)])], PLAIN, PLAIN, PLAIN])
        self.told([[(3, [(None, 2, 2)])], PLAIN, PLAIN, PLAIN], web, [("place", 0, 2)])
        self.told([[(2, [(None, 2, 1)])], PLAIN, PLAIN, PLAIN], web, [("bound", 0, 2)])

    def test_one_place_and_six(self):
        ones, sixes = Web(LINE, [[(1, [])]] * 3), Web(LINE, [[(6, [])]] * 3)
        self.told([[(2, [(None, 2, 1)])], [(1, [])], [(1, [])]], ones, [("place", 1, 2)])
        self.fails(InvalidMends, {"value": [("bound", 1, 2)]}, mended, ones, [("bound", 1, 2)])
        self.told([[(6, [])], [(6, [(None, 3, 5)])], [(6, [])]], sixes, [("bound", 2, 3)])
        self.fails(InvalidMends, {"value": [("place", 2, 3)]}, mended, sixes, [("place", 2, 3)])
        twos, fives = PLAIN_ROW, Web(LINE, [[(5, [])]] * 3)
        self.told([[(2, [(None, 2, 1)])], PLAIN, PLAIN], twos, [("bound", 1, 2)])
        self.told([[(6, [(None, 2, 5)])], [(5, [])], [(5, [])]], fives, [("place", 1, 2)])

    def test_several_and_none(self):
        self.told([PLAIN] * 3, PLAIN_ROW, [])
        self.told([[(2, [(None, 2, 1)])], [(3, [(None, 3, 2)])], [(2, [(None, 2, 1)])]], PLAIN_ROW,
                  [("bound", 3, 2), ("bound", 1, 2), ("place", 2, 3)])
        web = row_with([(2, [(None, 2, 2)])], PLAIN, PLAIN)
        self.told([[(2, [(None, 2, 2)])], PLAIN, [(2, [(None, 2, 1)])]], web, [("bound", 3, 2)])
        self.told([[(2, [(None, 2, 2)])], PLAIN, PLAIN], web, [])

    def test_only_plugged_sides(self):
        web = row_with([(2, [(None, 2, 1)])], PLAIN, PLAIN)
        for word in ["place", "bound"]:
            self.fails(InvalidMends, {"value": [(word, 1, 2)]}, mended, web, [(word, 1, 2)])
            self.told([[(2, [(None, 2, 1)])], PLAIN, mended(web, [(word, 3, 2)]).books[2]], web, [(word, 3, 2)])


class PriceTest(Case):
    def told(self, prices, mends, web, costs):
        told = [price(web, costs, yard) for yard in web.country.yards]
        self.assertEqual(told, prices)
        self.assertEqual([price(post=yard, prices=tuple(costs), web=web) for yard in web.country.yards], prices)
        least = min(prices)
        wanted = (least, web.country.yards[prices.index(least)])
        self.assertEqual([cheapest(web, costs), cheapest(prices=tuple(costs), web=web)], [wanted, wanted])
        self.assertEqual([cheapest_mends(web, costs), cheapest_mends(prices=costs, web=web)], [mends, mends])
        self.assertIs(type(cheapest(web, costs)), tuple)
        self.assertIs(type(cheapest_mends(web, costs)), list)
        self.assertIn(wanted[1], posts(mended(web, mends)))

    def test_the_example(self):
        self.told([6, 5, 3], [("bound", 1, 2), ("bound", 2, 3)], PLAIN_ROW, COSTS)
        self.assertEqual([price(PLAIN_ROW, COSTS, 1), price(PLAIN_ROW, COSTS, 2), price(PLAIN_ROW, COSTS, 3)], [2 + 4, 1 + 4, 1 + 2])
        self.assertEqual([cheapest(PLAIN_ROW, COSTS), posts(mended(PLAIN_ROW, cheapest_mends(PLAIN_ROW, COSTS)))], [(3, 3), [3]])

    def test_the_lesser_of_both(self):
        self.told([2 + 3, 1 + 3, 1 + 2], [("bound", 2, 3), ("place", 1, 2)], PLAIN_ROW, [(1, 4), (5, 2), (3, 6)])

    def test_a_bound_where_both_cost_the_same(self):
        self.told([4, 4, 4], [("bound", 2, 1), ("bound", 3, 2)], PLAIN_ROW, [(2, 2)] * 3)

    def test_one_place_or_six(self):
        # With one place there is no bound to lower, with six no place to add.
        self.told([9 + 9, 9 + 9, 9 + 9], [("place", 2, 1), ("place", 3, 2)], Web(LINE, [[(1, [])]] * 3), [(9, 0)] * 3)
        self.told([9 + 9, 9 + 9, 9 + 9], [("bound", 2, 1), ("bound", 3, 2)], Web(LINE, [[(6, [])]] * 3), [(0, 9)] * 3)

    def test_only_plugged_sides_count(self):
        kept = row_with([(2, [(None, 2, 1)])], [(2, [(None, 3, 1)])], PLAIN)
        self.told([2 + 4, 4, 0], [], kept, COSTS)
        self.told([0], [], Web(SHORT, [PLAIN]), [(1, 1)])

    def test_prices_of_0_and_the_first_of_the_least(self):
        self.told([0, 0, 0], [("bound", 2, 1), ("bound", 3, 2)], PLAIN_ROW, [(0, 0)] * 3)
        self.told([1, 0, 1], [("bound", 3, 2), ("place", 1, 2)], PLAIN_ROW, [(0, 9), (1, 1), (7, 0)])
        kept = row_with([(2, [(None, 2, 1)])], [(2, [(None, 3, 1)])], PLAIN)
        self.told([0, 0, 0], [("bound", 2, 1), ("bound", 3, 2)], kept, [(0, 0)] * 3)

    def test_great_prices(self):
        great = 10 ** 30 - 1
        self.told([great * 2] * 3, [("bound", 2, 1), ("bound", 3, 2)], PLAIN_ROW, [(great, great)] * 3)

    def test_by_the_sequence_of_the_yards(self):
        web = Web(STAR, [PLAIN, [(1, [])], PLAIN, [(6, [])]])
        self.told([20 + 3 + 4, 1 + 3 + 4, 1 + 20 + 4, 1 + 20 + 3], [("bound", 0, 1), ("bound", 2, 0), ("bound", 3, 0)], web,
                  [(9, 1), (20, 0), (9, 3), (0, 4)])

    def test_lists_are_new(self):
        told = cheapest_mends(PLAIN_ROW, COSTS)
        told.append(1)
        self.assertEqual(cheapest_mends(PLAIN_ROW, COSTS) + [1], told)


class WrongInputsTest(Case):
    def test_in_their_sequence(self):
        odd_prices, odd_mends = ODD + ODD_LISTS + NO_PRICES, ODD + ODD_LISTS + NO_MENDS
        self.refuses(mended, ("web", PLAIN_ROW, InvalidWeb, NO_WEB), ("mends", [("bound", 1, 2)], InvalidMends, odd_mends))
        # Prices and posts do not hang on it that the web is bounded: they come ahead of NotBounded.
        for good in [PLAIN_ROW, MIXED]:
            web, prices = ("web", good, InvalidWeb, NO_WEB), ("prices", COSTS, InvalidPrices, odd_prices)
            self.refuses(price, web, prices, ("post", 2, InvalidPost, NO_YARD))
            for call in [cheapest, cheapest_mends]:
                self.refuses(call, web, prices)

    def test_not_bounded(self):
        for web in [MIXED, row_with(PLAIN, [(2, []), (1, [])], PLAIN), row_with(PLAIN, PLAIN, [(2, [(None, 4, 1)])])]:
            # Mends hang on it: they come behind NotBounded.
            for mends in [[], [("bound", 1, 2)]] + ODD + NO_MENDS:
                self.fails(NotBounded, {}, mended, web, mends)
                self.fails(NotBounded, {}, mended, mends=mends, web=web)
            self.fails(NotBounded, {}, price, web, COSTS, 1)
            self.fails(NotBounded, {}, price, post=1, prices=COSTS, web=web)
            for call in [cheapest, cheapest_mends]:
                self.fails(NotBounded, {}, call, web, COSTS)
                self.fails(NotBounded, {}, call, prices=COSTS, web=web)


class FactsTest(Case):
    def test_just_this_side_is_plugged_no_more(self):
        chance = random.Random(49)
        words = {"place": 0, "bound": 0}
        for _ in range(60):
            web = bounded_web(chance)
            plugged = plugged_sides(web)
            for side in slow_sides(web.country):
                many = places_of(web, side[0])
                for word, is_there in (("place", many < 6), ("bound", many > 1)):
                    mend = (word,) + side
                    if side not in plugged or not is_there:
                        self.fails(InvalidMends, {"value": [mend]}, mended, web, [mend])
                        continue
                    made = mended(web, [mend])
                    words[word] += 1
                    self.assertEqual(plugged_sides(made), [other for other in plugged if other != side])
                    self.assertEqual(places_of(made, side[0]), many + (word == "place"))
                    self.assertEqual(bound_of(made, *side), many if word == "place" else many - 1)
                    yard = made.country.yards.index(side[0])
                    self.assertEqual(made.books[:yard] + made.books[yard + 1:], web.books[:yard] + web.books[yard + 1:])
        self.assertTrue(min(words.values()) > 40, words)

    def test_nobody_gets_a_post_for_less(self):
        chance = random.Random(50)
        tried = 0
        while tried < 12:
            web = bounded_web(chance)
            plugged = plugged_sides(web)
            if len(web.country.yards) > 4 or not plugged or posts(web):
                continue
            tried += 1
            prices = [(chance.randint(0, 5), chance.randint(0, 5)) for _ in web.country.yards]
            least = {}
            # Each yard is mended by one of the mends that there are for it, or not at all.
            each = [[None] for _ in web.country.yards]
            for yard, target in plugged:
                at = web.country.yards.index(yard)
                each[at] += [(word, yard, target) for word, is_there in
                             (("place", places_of(web, yard) < 6), ("bound", places_of(web, yard) > 1)) if is_there]
            for chosen in itertools.product(*each):
                mends = [mend for mend in chosen if mend]
                cost = sum(pair[mend[0] == "bound"] for pair, mend in zip(prices, chosen) if mend)
                made = posts(mended(web, mends))
                sides = [mend[1:] for mend in mends]
                for post in web.country.yards:
                    needed = [side for side in plugged if side[0] != post and slow_is_towards(web.country, side, post)]
                    self.says(post in made, all(side in sides for side in needed))
                    if post in made:
                        least[post] = min(cost, least.get(post, cost))
            self.assertEqual([price(web, prices, post) for post in web.country.yards], [least[post] for post in web.country.yards])
            self.assertEqual(cheapest(web, prices), min((least[post], post) for post in least))
            mends = cheapest_mends(web, prices)
            self.assertEqual(mends, sorted(mends))
            self.assertIn(cheapest(web, prices)[1], posts(mended(web, mends)))


if __name__ == "__main__":
    unittest.main()
