import random
import unittest

from helpers import FULL, LINE, ODD, ODD_LISTS, SHORT, STAR, Case, bounded_web, coming_stands, random_book, random_country
from helpers import random_web, slow_facing, slow_posts, slow_sides, slow_way, small_webs
from lanekeepers.countries import Country
from lanekeepers.errors import InvalidCountry, InvalidSide, InvalidWeb, InvalidYard
from lanekeepers.posts import can_be_stuck, do_face, facing, is_post, nearest, posts
from lanekeepers.sides import backs, is_plugged, plugged_sides
from lanekeepers.steps import is_stuck
from lanekeepers.webs import Web
from wrong import NO_COUNTRY, NO_WEB, NO_YARD, PLAIN_ROW

PLAIN = [(2, [])]
KEPT = Web(LINE, [[(2, [(None, 2, 1)])], [(2, [(None, 3, 1)])], PLAIN])
ONE = Web(SHORT, [[(1, [])]])
FIVE = Country([(0, 1), (1, 2), (2, 3), (3, 4), (4, 5), (5, 6)])
NO_SIDES = [(1, 0), (0, 1), (1, 3), (1, 1), (2, 2), (3, 4), (4, 3), (1,), (1, 2, 3), [1, 2], (True, 2), (2, True), (None, 2),
            (1, None), ("1", 2), (1, "2"), ([1], 2), (10 ** 29, 1), (1, 10 ** 29), (-1, 0), (), {1: 2, 2: 1}]


def row_of_five(*plugged):
    """Five yards in a row, 1 to 5, of which just these sides are plugged."""
    books = []
    for yard in range(1, 6):
        free = [near for near in (yard - 1, yard + 1) if 1 <= near <= 5 and (yard, near) not in plugged]
        books.append([(2, [(None, near, 1) for near in free])])
    web = Web(FIVE, books)
    assert plugged_sides(web) == sorted(plugged)
    return web


class PostsTest(Case):
    def told(self, wanted, web):
        self.assertEqual(posts(web), wanted)
        self.assertEqual(posts(web=web), wanted)
        for yard in web.country.yards:
            self.says(yard in wanted, is_post(web, yard))
            self.says(yard in wanted, is_post(yard=yard, web=web))
        self.says(wanted == [], can_be_stuck(web))
        self.says(wanted == [], can_be_stuck(web=web))
        self.says(wanted == [], nearest(web) is not None)
        self.says(wanted == [], facing(web) != [])

    def test_posts(self):
        self.told([3], KEPT)
        self.told([], PLAIN_ROW)
        self.told([1, 2, 3, 4, 5], row_of_five())
        self.told([3, 4, 5], row_of_five((3, 2)))
        self.told([2, 3], row_of_five((2, 1), (3, 4)))
        self.told([3], row_of_five((3, 2), (3, 4)))
        self.told([], row_of_five((2, 3), (3, 2)))
        self.told([], row_of_five((1, 2), (5, 4)))
        self.told([1], row_of_five((1, 2), (4, 5)))

    def test_one_yard(self):
        self.told([1], ONE)
        self.told([1], Web(SHORT, [[(6, [(0, 2, 0)]), (1, [])]]))

    def test_of_a_star(self):
        center = [(2, [(None, 1, 1), (None, 2, 1), (None, 3, 1)])]
        shy = [(2, [(None, 0, 1)])]
        self.told([0, 1, 2, 3], Web(STAR, [center, shy, shy, shy]))
        self.told([1], Web(STAR, [center, PLAIN, shy, shy]))
        self.told([], Web(STAR, [center, PLAIN, PLAIN, shy]))
        self.told([0, 2, 3], Web(STAR, [[(2, [(None, 2, 1), (None, 3, 1)])], shy, shy, shy]))

    def test_lists_are_new(self):
        for call in [lambda: posts(KEPT), lambda: facing(PLAIN_ROW)]:
            wanted, told = call(), call()
            told.append(1)
            self.assertEqual(call(), wanted)


class FacingTest(Case):
    def test_pairs(self):
        self.assertEqual(facing(PLAIN_ROW), [((1, 2), (2, 1)), ((1, 2), (3, 2)), ((2, 3), (3, 2))])
        self.assertEqual([facing(KEPT), facing(web=ONE)], [[], []])
        self.assertEqual(facing(row_of_five((4, 3), (2, 3), (1, 2), (5, 4), (2, 1))),
                         [((1, 2), (2, 1)), ((1, 2), (4, 3)), ((1, 2), (5, 4)), ((2, 3), (4, 3)), ((2, 3), (5, 4))])
        self.assertIs(type(facing(PLAIN_ROW)[0]), tuple)

    def test_the_lesser_side_first(self):
        country = Country([(9, 5), (5, 3), (3, 0), (0, 8), (9, 1), (1, 2), (2, 4), (0, 6), (5, 7)])
        web = Web(country, [PLAIN] * len(country.yards))
        self.assertTrue(all(one < other for one, other in facing(web)))
        self.assertEqual(facing(web), slow_facing(country, slow_sides(country)))

    def test_do_face(self):
        for one, other, wanted in [((1, 2), (2, 1), True), ((1, 2), (3, 2), True), ((2, 1), (3, 2), False),
                                   ((2, 1), (2, 3), False), ((1, 2), (1, 2), False), ((2, 3), (1, 2), False),
                                   ((3, 2), (1, 2), True), ((2, 3), (3, 2), True), ((2, 1), (1, 2), True)]:
            self.says(wanted, do_face(LINE, one, other))
            self.says(wanted, do_face(other=other, one=one, country=LINE))
        self.says(True, do_face(STAR, (1, 0), (3, 0)))
        self.says(False, do_face(STAR, (0, 1), (3, 0)))
        self.says(True, do_face(FULL, (7, 6), (1, 2)))

    def test_do_face_does_not_ask_whether_they_are_plugged(self):
        self.assertEqual(slow_sides(SHORT), [])
        self.says(True, do_face(KEPT.country, (1, 2), (2, 1)))


class NearestTest(Case):
    def test_nearest(self):
        self.assertEqual([nearest(PLAIN_ROW), nearest(KEPT), nearest(web=ONE)], [((1, 2), (2, 1)), None, None])
        self.assertIs(type(nearest(PLAIN_ROW)), tuple)

    def test_the_fewest_lanes_ahead_of_the_first(self):
        self.assertEqual(nearest(row_of_five((1, 2), (4, 5), (5, 4))), ((4, 5), (5, 4)))
        self.assertEqual(nearest(row_of_five((1, 2), (3, 4), (5, 4))), ((3, 4), (5, 4)))
        self.assertEqual(nearest(row_of_five((1, 2), (5, 4))), ((1, 2), (5, 4)))

    def test_the_first_of_several(self):
        self.assertEqual(nearest(row_of_five((2, 3), (3, 2), (4, 5), (5, 4))), ((2, 3), (3, 2)))
        self.assertEqual(nearest(row_of_five((1, 2), (3, 2), (3, 4), (5, 4))), ((1, 2), (3, 2)))
        center = [(2, [(None, 1, 1), (None, 2, 1), (None, 3, 1)])]
        self.assertEqual(nearest(Web(STAR, [center, PLAIN, PLAIN, PLAIN])), ((1, 0), (2, 0)))
        self.assertEqual(nearest(Web(STAR, [center, [(2, [(None, 0, 1)])], PLAIN, PLAIN])), ((2, 0), (3, 0)))


class WrongInputsTest(Case):
    def test_in_their_sequence(self):
        web = ("web", PLAIN_ROW, InvalidWeb, NO_WEB)
        for call in [posts, can_be_stuck, facing, nearest]:
            self.refuses(call, web)
        self.refuses(is_post, web, ("yard", 1, InvalidYard, NO_YARD))
        sides = NO_SIDES + ODD + ODD_LISTS
        self.refuses(do_face, ("country", LINE, InvalidCountry, NO_COUNTRY), ("one", (1, 2), InvalidSide, sides),
                     ("other", (2, 1), InvalidSide, sides))

    def test_the_first_wrong_side(self):
        self.fails(InvalidSide, {"value": (1, 0)}, do_face, LINE, (1, 0), (3, 4))
        self.fails(InvalidSide, {"value": (3, 4)}, do_face, LINE, (1, 2), (3, 4))


class FactsTest(Case):
    def test_against_whole_ways(self):
        chance = random.Random(22)
        with_posts = 0
        for at in range(60):
            web = random_web(chance, 4) if at < 20 else bounded_web(chance)
            country = web.country
            plugged = [side for side in slow_sides(country) if is_plugged(web, *side)]
            wanted, pairs = slow_posts(country, plugged), slow_facing(country, plugged)
            self.assertEqual([posts(web), facing(web)], [wanted, pairs])
            self.assertEqual(wanted, [yard for yard in country.yards if all(yard in back for back in backs(web))])
            self.says(wanted == [], can_be_stuck(web))
            self.says(wanted == [], pairs != [])
            for one in wanted:
                for other in wanted:
                    self.assertEqual([yard for yard in slow_way(country, one, other) if yard not in wanted], [])
            near = [(len(slow_way(country, one[0], other[0])), one, other) for one, other in pairs]
            self.assertEqual(nearest(web), min(near)[1:] if near else None)
            with_posts += wanted != []
        self.assertTrue(10 < with_posts < 50, with_posts)

    def test_do_face_exactly_if_their_backs_have_no_yard_in_common(self):
        chance = random.Random(23)
        for _ in range(20):
            country = random_country(chance)
            web = Web(country, [PLAIN] * len(country.yards))
            back = {side: set(yards) for side, yards in zip(plugged_sides(web), backs(web))}
            for one in back:
                for other in back:
                    self.says(not back[one] & back[other], do_face(country, one, other))

    def test_never_stuck_exactly_with_a_post(self):
        chance = random.Random(24)
        found = []
        for web in small_webs(chance, 25, lambda chance, country, yard: random_book(chance, country.neighbours(yard), 3)):
            stuck = any(is_stuck(web, stand) for stand in coming_stands(web))
            self.says(stuck, can_be_stuck(web))
            self.says(not stuck, posts(web) != [])
            found.append(stuck)
        self.assertTrue(3 < found.count(True) < 22, found.count(True))


if __name__ == "__main__":
    unittest.main()
