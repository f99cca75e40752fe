import random
import unittest

from helpers import FULL, LINE, ODD, ODD_LISTS, SHORT, STAR, Case, bounded_book, bounded_web, coming_stands, small_webs
from helpers import slow_facing, slow_sides, slow_way
from lanekeepers.bounds import bound_of, is_bounded, places_of
from lanekeepers.countries import Country
from lanekeepers.errors import InvalidMany, InvalidWeb, NotBounded
from lanekeepers.few import fewest, fewest_script, fewest_stand, is_few_script, sums
from lanekeepers.posts import nearest, posts
from lanekeepers.steps import after, is_script, is_stuck
from lanekeepers.webs import Web
from wrong import NO_STEP_LISTS, NO_WEB, PLAIN_ROW

PLAIN = [(2, [])]
NARROW = Web(LINE, [PLAIN, [(3, [(None, 1, 2), (None, 3, 2)])], PLAIN])
KEPT = Web(LINE, [[(2, [(None, 2, 1)])], [(2, [(None, 3, 1)])], PLAIN])
MIXED = Web(LINE, [[(2, [(0, None, 1)])], PLAIN, PLAIN])
FIVE = Country([(0, 1), (1, 2), (2, 3), (3, 4), (4, 5), (5, 6)])
JAM = [("in", 4, 0), ("on", 3, 4, 0), ("in", 4, 0), ("on", 3, 4, 0), ("in", 0, 4), ("in", 0, 4)]
PAIR = Country([(0, 1), (1, 2), (2, 3)])


class SumsTest(Case):
    def told(self, wanted, web):
        self.assertEqual(sums(web), wanted)
        self.assertEqual(sums(web=web), wanted)
        least = wanted[0][0] if wanted else None
        self.assertEqual([fewest(web), fewest(web=web)], [least, least])
        script, stand = fewest_script(web), fewest_stand(web)
        self.assertEqual([fewest_script(web=web), fewest_stand(web=web)], [script, stand])
        if least is None:
            self.assertEqual([script, stand], [None, None])
        else:
            self.assertEqual([type(script), type(stand), stand], [list, list, sorted(stand)])
            self.assertTrue(len(script) <= 400)
            self.says(True, is_few_script(web, least, script))
            self.says(False, is_few_script(web, least - 1, script))
            self.says(True, is_stuck(web, stand))
            self.assertEqual([len(stand), after(web, [], script)], [least, stand])

    def test_sums(self):
        self.told([(4, (1, 2), (2, 1)), (4, (2, 3), (3, 2)), (6, (1, 2), (3, 2))], PLAIN_ROW)
        self.told([(7, (1, 2), (3, 2))], NARROW)

    def test_none(self):
        self.told([], KEPT)
        self.told([], Web(SHORT, [PLAIN]))

    def test_the_lesser_of_places_and_both_bounds(self):
        def middle(places, one, other):
            return Web(LINE, [PLAIN, [(places, [(None, 1, one), (None, 3, other)])], PLAIN])
        self.told([(6, (1, 2), (3, 2))], middle(6, 1, 1))
        self.told([(7, (1, 2), (3, 2))], middle(6, 1, 2))
        self.told([(9, (1, 2), (3, 2))], middle(6, 3, 2))
        self.told([(9, (1, 2), (3, 2))], middle(5, 3, 3))
        self.told([(10, (1, 2), (3, 2))], middle(6, 5, 5))
        self.told([(6, (1, 2), (3, 2))], middle(2, 1, 1))

    def test_each_yard_between(self):
        books = [[(6, [])], [(4, [(None, 1, 1), (None, 3, 2)])], [(5, [(None, 2, 4), (None, 4, 4)])],
                 [(2, [(None, 3, 1), (None, 5, 1)])], [(1, [])]]
        self.told([(6 + 3 + 5 + 2 + 1, (1, 2), (5, 4))], Web(FIVE, books))

    def test_bounds_by_the_way(self):
        # The bound of yard 0 towards yard 3 does not count on the way from 1 to 2.
        center = [(6, [(None, 1, 1), (None, 2, 2), (None, 3, 3)])]
        self.told([(2 + 1 + 3, (1, 0), (2, 0)), (2 + 3 + 4, (1, 0), (3, 0)), (1 + 3 + 5, (2, 0), (3, 0))],
                  Web(STAR, [center, PLAIN, [(1, [])], [(3, [])]]))

    def test_the_fewest_are_not_the_nearest(self):
        web = Web(FIVE, [[(6, [])], [(6, [(None, 3, 1)])], [(2, [(None, 2, 1)])], [(2, [(None, 3, 1), (None, 5, 1)])], [(1, [])]])
        self.assertEqual(nearest(web), ((1, 2), (2, 1)))
        self.told([(2 + 2 + 1, (3, 4), (5, 4)), (6 + 6, (1, 2), (2, 1)), (6 + 6 + 2 + 2 + 1, (1, 2), (5, 4))], web)

    def test_lists_are_new(self):
        for call in [lambda: sums(PLAIN_ROW), lambda: fewest_script(PLAIN_ROW), lambda: fewest_stand(PLAIN_ROW)]:
            wanted, told = call(), call()
            told.append(1)
            self.assertEqual(call(), wanted)


class FewScriptTest(Case):
    def test_scripts(self):
        self.says(True, is_few_script(PLAIN_ROW, 4, JAM))
        self.says(True, is_few_script(value=tuple(JAM), many=42, web=PLAIN_ROW))
        self.says(False, is_few_script(PLAIN_ROW, 3, JAM))
        for steps in [[], (), JAM[:-1], JAM[1:], JAM + [("on", 1, 0, 4)], JAM + [("in", 0, 4)], JAM + [("on", 3, 0, 4)]]:
            self.says(False, is_few_script(PLAIN_ROW, 42, steps))
        self.says(False, is_few_script(KEPT, 42, JAM))

    def test_not_only_the_carts_at_the_end_count(self):
        # One of the carts goes out while the others come: with the last one there are four in all, or five for a while.
        out = [("on", 1, 0, 4), ("on", 2, 0, 4), ("on", 3, 0, 4)]
        start = [("in", 0, 4)] * 2 + out[:2] + [("in", 0, 4)] + JAM[:2]
        self.says(True, is_few_script(PLAIN_ROW, 4, start + out[2:] + JAM[2:4]))
        self.says(True, is_few_script(PLAIN_ROW, 5, start + JAM[2:3] + out[2:] + JAM[3:4]))
        self.says(False, is_few_script(PLAIN_ROW, 4, start + JAM[2:3] + out[2:] + JAM[3:4]))

    def test_many_at_its_bounds(self):
        for many in [0, 1, 3]:
            self.says(False, is_few_script(PLAIN_ROW, many, JAM))
        self.says(False, is_few_script(PLAIN_ROW, 0, []))
        self.says(True, is_few_script(PLAIN_ROW, 42, JAM))
        self.fails(InvalidMany, {"value": 43}, is_few_script, PLAIN_ROW, 43, JAM)

    def test_42_carts(self):
        row = Country([(k, k + 1) for k in range(8)])
        web = Web(row, [[(6, [])]] * 7)
        steps = [("in", 0, 8)] * 6
        for yard in range(2, 8):
            for _ in range(6):
                steps += [("in", 8, 0)] + [("on", at, 8, 0) for at in range(7, yard, -1)]
        self.says(True, is_few_script(web, 42, steps))
        self.says(False, is_few_script(web, 41, steps))

    def test_400_steps_and_more(self):
        over = [("in", 0, 3), ("on", 1, 0, 3), ("on", 2, 0, 3)]
        jam = [("in", 0, 3)] * 2 + [("in", 3, 0)] * 2
        web = Web(PAIR, [PLAIN, PLAIN])
        self.says(True, is_few_script(web, 4, over * 132 + jam))
        self.says(False, is_few_script(web, 4, over * 133 + jam))
        wider = Web(PAIR, [[(3, [])], PLAIN])
        self.says(True, is_few_script(wider, 5, over * 131 + [("in", 0, 3)] + jam))
        self.says(False, is_few_script(wider, 5, over * 132 + [("in", 0, 3)] + jam))

    def test_any_value(self):
        for odd in NO_STEP_LISTS + [PLAIN_ROW]:
            with self.subTest(odd=repr(odd)):
                self.says(False, is_few_script(PLAIN_ROW, 42, odd))


class WrongInputsTest(Case):
    def test_in_their_sequence(self):
        for good in [PLAIN_ROW, MIXED]:
            web = ("web", good, InvalidWeb, NO_WEB)
            for call in [sums, fewest, fewest_script, fewest_stand]:
                self.refuses(call, web)
            # A wrong number comes ahead of NotBounded.
            self.refuses(is_few_script, web, ("many", 4, InvalidMany, ODD + ODD_LISTS + [43, 10 ** 6]), ("value", JAM))

    def test_not_bounded(self):
        self.says(False, is_bounded(MIXED))
        for call in [sums, fewest, fewest_script, fewest_stand]:
            self.fails(NotBounded, {}, call, MIXED)
            self.fails(NotBounded, {}, call, web=MIXED)
        for many in [0, 4, 42]:
            self.fails(NotBounded, {}, is_few_script, MIXED, many, None)
            self.fails(NotBounded, {}, is_few_script, value=JAM, many=many, web=MIXED)


class FactsTest(Case):
    def test_sums_by_whole_ways(self):
        chance = random.Random(37)
        found = 0
        for _ in range(80):
            web = bounded_web(chance, 4)
            country = web.country
            wanted = []
            plugged = [side for side in slow_sides(country) if bound_of(web, *side) == places_of(web, side[0])]
            for one, other in slow_facing(country, plugged):
                walk = slow_way(country, one[0], other[0])
                total = places_of(web, walk[0]) + places_of(web, walk[-1])
                for before, yard, behind in zip(walk, walk[1:], walk[2:]):
                    total += min(places_of(web, yard), bound_of(web, yard, before) + bound_of(web, yard, behind))
                wanted.append((total, one, other))
            self.assertEqual(sums(web), sorted(wanted))
            self.assertEqual(fewest(web), min(wanted)[0] if wanted else None)
            script = fewest_script(web)
            if not wanted:
                self.assertEqual([script, fewest_stand(web)], [None, None])
            else:
                least = min(wanted)[0]
                self.says(True, is_script(web, script, least))
                self.says(True, is_few_script(web, least, script))
                self.says(False, is_few_script(web, least - 1, script))
                self.assertEqual(fewest_stand(web), after(web, [], script))
                found += min(wanted)[1:] != nearest(web)
        self.assertTrue(found > 3, found)

    def test_with_one_cart_less_nobody_is_stuck(self):
        chance = random.Random(38)
        tried = 0
        for web in small_webs(chance, 40, lambda chance, country, yard: bounded_book(chance, country, yard, 3), 250):
            least = fewest(web)
            self.says(least is None, posts(web) != [])
            stands = coming_stands(web) if least is None else coming_stands(web, least - 1)
            self.assertEqual([stand for stand in stands if is_stuck(web, stand)], [])
            tried += least is not None
        self.assertTrue(5 < tried < 35, tried)

    def test_the_greatest_webs(self):
        self.assertEqual(fewest(Web(FULL, [[(6, [])]] * 7)), 12)
        row = Country([(k, k + 1) for k in range(8)])
        inner = [[(6, [(None, k - 1, 3), (None, k + 1, 3)])] for k in range(2, 7)]
        web = Web(row, [[(6, [])]] + inner + [[(6, [])]])
        self.assertEqual(sums(web), [(42, (1, 2), (7, 6))])
        self.says(True, is_few_script(web, 42, fewest_script(web)))
        self.says(False, is_few_script(web, 41, fewest_script(web)))


if __name__ == "__main__":
    unittest.main()
