import random
import unittest

from helpers import FULL, LINE, ODD, ODD_LISTS, STAR, Case, bounded_web, random_book, random_web, slow_sides, slow_way
from helpers import slow_witnesses
from lanekeepers.countries import Country
from lanekeepers.errors import InvalidTarget, InvalidWeb, InvalidYard
from lanekeepers.sides import backs, is_plugged, is_witness, plugged_sides, witness
from lanekeepers.webs import Web
from wrong import BAD_LOADS, NO_WEB, NO_YARD, NO_YARD_AHEAD_OF_1, PLAIN_ROW

PLAIN = [(2, [])]
KEPT = Web(LINE, [[(2, [(None, 2, 1)])], [(2, [(None, 3, 1)])], PLAIN])
# The yard 0 with the gates 2 and 3 and the yard 1, behind which is the gate 4.
BRANCH = Country([(0, 1), (0, 2), (0, 3), (1, 4)])


def branch(book):
    return Web(BRANCH, [book, PLAIN])


class WitnessTest(Case):
    def told(self, wanted, web, yard, target):
        found = witness(web, yard, target)
        self.assertEqual(found, wanted)
        self.says(wanted is not None, is_plugged(web, yard, target))
        self.assertEqual(witness(target=target, yard=yard, web=web), wanted)
        self.says(wanted is not None, is_plugged(target=target, yard=yard, web=web))
        if wanted is not None:
            self.assertEqual((type(found), type(found[0]), type(found[1])), (tuple, list, int))
            self.says(True, is_witness(web, yard, target, found))

    def test_by_the_places(self):
        self.told(([(0, 2, 2)], 0), PLAIN_ROW, 1, 2)
        self.told(([(1, 3, 2)], 1), PLAIN_ROW, 2, 3)
        self.told(([(4, 2, 6)], 4), Web(LINE, [PLAIN, PLAIN, [(6, [])]]), 3, 2)

    def test_by_a_bound(self):
        # A bound for those that come back is kept as long as there is just one: so only the places count here.
        self.told(([(0, 2, 3)], 0), Web(LINE, [[(3, [(None, 0, 1)])], PLAIN, PLAIN]), 1, 2)
        self.told(None, Web(LINE, [[(3, [(None, 2, 2)])], PLAIN, PLAIN]), 1, 2)
        self.told(None, Web(LINE, [[(3, [(0, None, 2)])], PLAIN, PLAIN]), 1, 2)
        self.told(None, Web(LINE, [[(3, [(0, 2, 2)])], PLAIN, PLAIN]), 1, 2)

    def test_by_the_alternatives(self):
        # One cart from 0 leaves just the alternative with one place; without it there are three.
        self.told(([(0, 2, 1)], 0), Web(LINE, [[(3, [(0, 2, 0)]), (1, [])], PLAIN, PLAIN]), 1, 2)
        self.told(None, Web(LINE, [[(3, [(0, 2, 1)]), (1, [])], PLAIN, PLAIN]), 1, 2)
        self.told(([(0, 2, 2)], 0), Web(LINE, [[(3, [(0, 2, 1)]), (2, [])], PLAIN, PLAIN]), 1, 2)

    def test_not_plugged(self):
        self.told(None, KEPT, 1, 2)
        self.told(None, KEPT, 2, 3)
        self.told(([(4, 2, 2)], 4), KEPT, 3, 2)

    def test_the_fewest_carts_come_first(self):
        # [(2, 1, 2)] is less, but has more carts than [(3, 1, 1)].
        self.told(([(3, 1, 1)], 2), branch([(2, [(3, 1, 0)]), (1, [])]), 0, 1)
        self.says(True, is_witness(branch([(2, [(3, 1, 0)]), (1, [])]), 0, 1, ([(2, 1, 2)], 2)))

    def test_then_the_least_load(self):
        self.told(([(2, 1, 1), (3, 1, 1)], 2), branch(PLAIN), 0, 1)
        self.told(([(2, 1, 1), (3, 1, 2)], 2), branch([(3, [(2, None, 1)])]), 0, 1)

    def test_then_the_least_place(self):
        self.told(([(2, 1, 1)], 2), branch([(1, [])]), 0, 1)
        # Only the way to 3 is barred.
        self.told(([(2, 1, 1)], 3), branch([(6, [(1, 3, 0)]), (1, [])]), 0, 1)
        # The least load counts ahead of the least place: [(3, 1, 1)] bars 2, [(2, 1, 1)] just 3.
        self.told(([(2, 1, 1)], 3), branch([(6, [(1, 3, 0), (3, 1, 0)]), (1, [])]), 0, 1)
        self.says(True, is_witness(branch([(6, [(1, 3, 0), (3, 1, 0)]), (1, [])]), 0, 1, ([(3, 1, 1)], 2)))

    def test_barred_may_be_a_yard_or_a_gate(self):
        book = [(6, [(1, 2, 0)]), (1, [])]
        self.told(([(2, 1, 1)], 2), Web(STAR, [book, PLAIN, PLAIN, PLAIN]), 0, 1)
        self.told(([(2, 4, 1), (12, 4, 1)], 2), Web(FULL, [PLAIN] * 7), 3, 4)

    def test_lists_are_new(self):
        told = witness(PLAIN_ROW, 1, 2)
        told[0].append(1)
        self.assertEqual(witness(PLAIN_ROW, 1, 2), ([(0, 2, 2)], 0))


class IsWitnessTest(Case):
    def test_witnesses(self):
        for value in [([(1, 3, 2)], 1), (((1, 3, 2),), 1)]:
            self.says(True, is_witness(PLAIN_ROW, 2, 3, value))
            self.says(True, is_witness(value=value, target=3, yard=2, web=PLAIN_ROW))
        for value in [([(2, 1, 2)], 2), ([(2, 1, 2)], 3), ([(2, 1, 1), (3, 1, 1)], 3), (((3, 1, 2),), 2)]:
            self.says(True, is_witness(branch(PLAIN), 0, 1, value))

    def test_no_witnesses(self):
        values = [([(1, 3, 1)], 1), ([], 1), ([(1, 3, 3)], 1), ([(3, 1, 2)], 1), ([(3, 1, 2)], 3), ([(1, 3, 1), (3, 1, 1)], 1),
                  ([(1, 3, 2)], 3), ([(1, 3, 2)], 2), ([(1, 3, 2)], 0), ([(1, 3, 2)], 4), ([(1, 3, 2)], None),
                  ([(1, 3, 2)], True), ([(1, 3, 2)], "1"), ([(1, 3, 2)], [1]), [[(1, 3, 2)], 1], ([(1, 3, 2)],),
                  ([(1, 3, 2)], 1, 1), (1, [(1, 3, 2)]), (None, 1), ([(True, 3, 2)], 1), ([(1, 3, 2), (1, 3, 2)], 1),
                  ([[1, 3, 2]], 1), ({(1, 3, 2): 1}, 1), ((1, 3, 2), 1), ([(1, 3, 10 ** 29)], 1), ()]
        for odd in values + ODD + ODD_LISTS + [(load, 1) for load in BAD_LOADS + ODD]:
            with self.subTest(odd=repr(odd)):
                self.says(False, is_witness(PLAIN_ROW, 2, 3, odd))

    def test_the_load_must_stand(self):
        web = branch([(3, [(2, None, 1)])])
        self.says(False, is_witness(web, 0, 1, ([(2, 1, 2), (3, 1, 1)], 2)))
        self.says(True, is_witness(web, 0, 1, ([(2, 1, 1), (3, 1, 2)], 3)))

    def test_just_the_target(self):
        self.says(False, is_witness(branch(PLAIN), 0, 1, ([(2, 1, 1), (2, 3, 1)], 2)))
        self.says(False, is_witness(branch(PLAIN), 0, 1, ([(2, 1, 2)], 1)))

    def test_none_of_a_side_that_is_not_plugged(self):
        for value in [([(0, 2, 1)], 0), ([(0, 2, 2)], 0)]:
            self.says(False, is_witness(KEPT, 1, 2, value))


class PluggedSidesTest(Case):
    def test_sides_and_backs(self):
        self.assertEqual(plugged_sides(PLAIN_ROW), [(1, 2), (2, 1), (2, 3), (3, 2)])
        self.assertEqual(backs(PLAIN_ROW), [[1], [2, 3], [1, 2], [3]])
        self.assertEqual([plugged_sides(web=KEPT), backs(web=KEPT)], [[(2, 1), (3, 2)], [[2, 3], [3]]])
        star = Web(STAR, [[(6, [(None, 1, 5), (None, 3, 5)])], PLAIN, [(2, [(None, 0, 1)])], PLAIN])
        self.assertEqual([plugged_sides(star), backs(star)], [[(0, 2), (1, 0), (3, 0)], [[0, 1, 3], [1], [3]]])

    def test_one_yard_has_no_sides(self):
        web = Web(Country([(0, 1), (1, 2)]), [PLAIN])
        self.assertEqual([plugged_sides(web), backs(web)], [[], []])

    def test_lists_are_new(self):
        for call in [lambda: plugged_sides(PLAIN_ROW), lambda: backs(PLAIN_ROW)]:
            wanted, told = call(), call()
            told.append(1)
            self.assertEqual(call(), wanted)
        told = backs(PLAIN_ROW)
        told[0].append(9)
        self.assertEqual(backs(PLAIN_ROW), [[1], [2, 3], [1, 2], [3]])

    def test_the_greatest_country(self):
        web = Web(FULL, [[(6, [])] * 4] * 7)
        self.assertEqual(plugged_sides(web), slow_sides(FULL))
        self.assertEqual(len(backs(web)), 12)


class WrongInputsTest(Case):
    def test_in_their_sequence(self):
        web = ("web", PLAIN_ROW, InvalidWeb, NO_WEB)
        yard = ("yard", 1, InvalidYard, NO_YARD)
        target = ("target", 2, InvalidTarget, NO_YARD_AHEAD_OF_1)
        for call in [is_plugged, witness]:
            self.refuses(call, web, yard, target)
        self.refuses(is_witness, web, yard, target, ("value", None))
        for call in [plugged_sides, backs]:
            self.refuses(call, web)

    def test_a_target_that_is_a_gate(self):
        for call in [is_plugged, witness, lambda *told: is_witness(*told, ([(2, 0, 2)], 2))]:
            self.fails(InvalidTarget, {"value": 0}, call, PLAIN_ROW, 1, 0)
            self.fails(InvalidTarget, {"value": 4}, call, PLAIN_ROW, 3, 4)


class FactsTest(Case):
    def test_against_all_loads(self):
        chance = random.Random(20)
        found = missed = several = 0
        for at in range(40):
            web = random_web(chance, 4) if at < 25 else bounded_web(chance)
            country = web.country
            plugged = []
            for yard, target in slow_sides(country):
                told = slow_witnesses(web, yard, target)
                self.says(told != [], is_plugged(web, yard, target))
                self.assertEqual(witness(web, yard, target), told[0][1:] if told else None)
                for _, load, barred in told[:20]:
                    self.says(True, is_witness(web, yard, target, (load, barred)))
                for near in country.neighbours(yard):
                    for load in [load for _, load, _ in told[:5]] + [[]]:
                        shown = any((load, near) == one[1:] for one in told)
                        self.says(shown, is_witness(web, yard, target, (load, near)))
                plugged += [(yard, target)] * (told != [])
                found, missed, several = found + (told != []), missed + (told == []), several + (len(told) > 1)
            self.assertEqual(plugged_sides(web), plugged)
            self.assertEqual(backs(web), [[one for one in country.yards if target not in slow_way(country, one, yard)]
                                          for yard, target in plugged])
        self.assertTrue(min(found, missed, several) > 10, (found, missed, several))

    def test_what_plugs_stays_plugged_by_tuples(self):
        chance = random.Random(21)
        for _ in range(20):
            book = random_book(chance, [1, 2, 3])
            for _, load, barred in slow_witnesses(branch(book), 0, 1)[:5]:
                self.says(True, is_witness(branch(book), 0, 1, (tuple(load), barred)))


if __name__ == "__main__":
    unittest.main()
