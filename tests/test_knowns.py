import itertools
import random
import unittest

from helpers import FULL, LINE, ODD, ODD_LISTS, SHORT, STAR, Case, all_fillings, bounded_book, greatest_of, load_of_carts
from helpers import loads_up_to, random_book, random_country, random_known, slow_facing, slow_is_at_most, slow_plugged_by
from helpers import slow_posts, slow_sides, slow_stands, slow_surely_let, slow_surely_refused
from lanekeepers.countries import Country
from lanekeepers.errors import InvalidCountry, InvalidFilling, InvalidKnowns, InvalidTarget, InvalidYard, TooMany
from lanekeepers.knowns import can_be_free, can_be_plugged, filled_posts, fillings, freeing, is_filling, plugging, verdict
from lanekeepers.loads import greatest_loads
from lanekeepers.posts import can_be_stuck, posts
from lanekeepers.seen import fits, noted
from lanekeepers.webs import Web
from wrong import BAD_LOADS, EACH_WAY, NO_COUNTRY, NO_KNOWNS, NO_YARD, NO_YARD_AHEAD_OF_1, ONE_CART, TWO_BACK, TWO_ON

NONE_SEEN = (2, [], [])
NOTHING = [NONE_SEEN] * 3
# The yards 1 and 2 let one cart each way, and refuse two that go on to 2 and to 3.
SEEN = [(2, [[(0, 2, 1), (2, 0, 1)]], [[(0, 2, 2)]]), (2, [EACH_WAY], [TWO_ON]), NONE_SEEN]
SINGLES = [[[(0, 2, 1)], [(2, 0, 1)]], [[(1, 3, 1)], [(3, 1, 1)]], [[(2, 4, 1)], [(4, 2, 1)]]]
PAIR = Country([(0, 1), (1, 2), (2, 3)])
# The yard 0 with the gates 2 and 3 and the yard 1, behind which is the gate 4.
BRANCH = Country([(0, 1), (0, 2), (0, 3), (1, 4)])
# The yard 0 with the gates 2, 3 and 4 and the yard 1: of two carts it has 78 loads in all, 12 and 66 unlike ones.
CROSS = Country([(0, 1), (0, 2), (0, 3), (0, 4), (1, 5)])
NO_LISTS = [[], (), [NONE_SEEN] * 2, [NONE_SEEN] * 4, {1: NONE_SEEN, 2: NONE_SEEN, 3: NONE_SEEN}, NONE_SEEN,
            [NONE_SEEN, SEEN[0], NONE_SEEN], [SEEN[1], NONE_SEEN, NONE_SEEN]]
NO_LISTS = NO_LISTS + [[NONE_SEEN, known, NONE_SEEN] for known in NO_KNOWNS] + [[NONE_SEEN, NONE_SEEN, [2, [], []]]]


def filling_of_cross(many):
    """A filling of yard 0 of CROSS with so many loads: of three carts, and the single ones that are at most none of them."""
    loads = list(loads_up_to(CROSS.neighbours(0), 3))
    single, three = [[load for load in loads if sum(n for _, _, n in load) == carts] for carts in (1, 3)]
    for taken in range(many + 1):
        told = sorted(three[:taken] + [load for load in single if not any(slow_is_at_most(load, one) for one in three[:taken])])
        if len(told) == many:
            return told


def slow_filled_posts(country, filling):
    plugged = []
    for yard, loads in zip(country.yards, filling):
        around = country.neighbours(yard)
        most = max(sum(many for _, _, many in load) for load in loads)
        standing = [load for load in loads_up_to(around, most) if any(slow_is_at_most(load, one) for one in loads)]
        plugged += [(yard, near) for near in around if near in country.yards and slow_plugged_by(around, standing, near)]
    return slow_posts(country, plugged)


def any_known(chance, country, yard, places, many):
    """A known with up to so many loads in each list: any ones, or all by the same book."""
    around = country.neighbours(yard)
    if chance.random() < 0.4:
        return random_known(chance, around, places, many, many)
    near = [other for other in around if other in country.yards and chance.random() < 0.7]
    book = [(places, [(None, other, max(1, places - 1)) for other in near])]
    lists = {True: [], False: []}
    for _ in range(3 * many):
        load = load_of_carts(chance.choices([(a, b) for a in around for b in around if a != b], k=chance.randint(2, places + 1)))
        lists[slow_stands(book, load)].append(load)
    return places, lists[True][:many], lists[False][:many]


class PluggingTest(Case):
    def told(self, wanted, country, knowns, yard, target):
        found = plugging(country, knowns, yard, target)
        self.assertEqual(found, wanted)
        self.assertEqual(plugging(target=target, yard=yard, knowns=tuple(knowns), country=country), wanted)
        self.says(wanted is not None, can_be_plugged(country, knowns, yard, target))
        self.says(wanted is not None, can_be_plugged(target=target, yard=yard, knowns=knowns, country=country))
        if wanted is not None:
            self.assertEqual([type(found), type(found[0])], [tuple, list])

    def test_nothing_seen(self):
        self.told(([(0, 2, 1)], 0), LINE, NOTHING, 1, 2)
        self.told(([(1, 3, 1)], 1), LINE, NOTHING, 2, 3)
        self.told(([(4, 2, 1)], 4), LINE, [(1, [], [])] * 3, 3, 2)

    def test_with_what_was_seen(self):
        self.told(None, LINE, SEEN, 1, 2)
        self.told(None, LINE, SEEN, 2, 3)
        self.told(([(3, 1, 2)], 3), LINE, SEEN, 2, 1)
        self.told(([(4, 2, 1)], 4), LINE, SEEN, 3, 2)
        self.told(([(1, 3, 2)], 1), LINE, [NONE_SEEN, (2, [EACH_WAY], []), NONE_SEEN], 2, 3)
        self.told(([(1, 3, 3)], 1), LINE, [NONE_SEEN, (4, [[(1, 3, 2), (3, 1, 1)]], [[(1, 3, 4)]]), NONE_SEEN], 2, 3)
        self.told(None, LINE, [NONE_SEEN, (4, [[(1, 3, 2), (3, 1, 1)]], [[(1, 3, 3)]]), NONE_SEEN], 2, 3)

    def test_up_to_the_places(self):
        let = [[(1, 3, many), (3, 1, 1)] for many in range(1, 6)]
        self.told(([(1, 3, 6)], 1), LINE, [NONE_SEEN, (6, let, []), NONE_SEEN], 2, 3)
        self.told(None, LINE, [NONE_SEEN, (6, let, [[(1, 3, 6)]]), NONE_SEEN], 2, 3)

    def test_the_fewest_carts_then_the_least_load_then_the_least_place(self):
        other = NONE_SEEN
        self.told(([(2, 1, 1)], 2), BRANCH, [NONE_SEEN, other], 0, 1)
        one_more = [load_of_carts([(2, 1), (1, 2)]), load_of_carts([(2, 1), (1, 3)])]
        self.told(([(2, 1, 1)], 3), BRANCH, [(3, one_more[:1], []), other], 0, 1)
        self.told(([(3, 1, 1)], 2), BRANCH, [(3, one_more, []), other], 0, 1)
        both = one_more + [load_of_carts([(3, 1), (1, 2)]), load_of_carts([(3, 1), (1, 3)])]
        self.told(([(2, 1, 1), (3, 1, 1)], 2), BRANCH, [(3, both, []), other], 0, 1)
        self.told(([(2, 1, 2)], 2), BRANCH, [(3, both, [[(2, 1, 1), (3, 1, 1)]]), other], 0, 1)
        self.told(([(3, 1, 2)], 2), BRANCH, [(3, both, [[(2, 1, 1), (3, 1, 1)], [(2, 1, 2)]]), other], 0, 1)

    def test_a_place_that_is_no_gate(self):
        knowns = [(1, [], []), NONE_SEEN, NONE_SEEN, NONE_SEEN]
        self.told(([(2, 1, 1)], 2), STAR, knowns, 0, 1)
        self.told(([(1, 3, 1)], 1), STAR, knowns, 0, 3)

    def test_lists_are_new(self):
        plugging(LINE, NOTHING, 1, 2)[0].append(1)
        self.assertEqual([plugging(LINE, NOTHING, 1, 2), NOTHING], [([(0, 2, 1)], 0), [(2, [], [])] * 3])


class FreeingTest(Case):
    def told(self, wanted, country, knowns, yard, target):
        found = freeing(country, knowns, yard, target)
        self.assertEqual(found, wanted)
        self.assertEqual(freeing(target=target, yard=yard, knowns=tuple(knowns), country=country), wanted)
        self.says(wanted is not None, can_be_free(country, knowns, yard, target))
        self.says(wanted is not None, can_be_free(target=target, yard=yard, knowns=knowns, country=country))

    def test_nothing_seen(self):
        self.told([[(0, 2, 1), (2, 0, 1)]], LINE, NOTHING, 1, 2)
        self.told(None, LINE, [(1, [], [])] * 3, 2, 1)
        self.told([[(1, 2, 1), (2, 1, 1)], [(1, 2, 1), (3, 1, 1)], [(1, 3, 1), (2, 1, 1)], [(1, 3, 1), (3, 1, 1)],
                   [(2, 3, 1)], [(3, 2, 1)]], BRANCH, [NONE_SEEN] * 2, 0, 1)

    def test_with_what_was_seen(self):
        self.told([[(0, 2, 1), (2, 0, 1)]], LINE, SEEN, 1, 2)
        self.told([EACH_WAY], LINE, SEEN, 2, 1)
        # Two carts that go on were let, and fill the yard.
        self.told(None, LINE, [NONE_SEEN, (2, [TWO_ON], []), NONE_SEEN], 2, 3)
        self.told([EACH_WAY, TWO_ON], LINE, [NONE_SEEN, (2, [TWO_ON], []), NONE_SEEN], 2, 1)
        self.told([[(1, 3, 2), (3, 1, 1)]], LINE, [NONE_SEEN, (3, [TWO_ON], []), NONE_SEEN], 2, 3)
        self.told([[(1, 3, 2), (3, 1, 1)], [(3, 1, 2)]], LINE, [NONE_SEEN, (3, [TWO_ON, TWO_BACK], []), NONE_SEEN], 2, 3)
        self.told(None, LINE, [NONE_SEEN, (3, [TWO_ON], [EACH_WAY]), NONE_SEEN], 2, 1)
        self.told(None, LINE, [NONE_SEEN, (3, [TWO_ON], [[(1, 3, 2), (3, 1, 1)]]), NONE_SEEN], 2, 3)

    def test_parts_of_what_was_let(self):
        # Of the load that was let two carts go on to 1: with them one from 1 is to be let, too.
        let = [(2, 1, 1), (2, 3, 1), (3, 1, 1)]
        self.told([[(1, 2, 1), (2, 1, 1), (3, 1, 1)], [(1, 3, 1), (2, 1, 1), (3, 1, 1)], let, [(3, 2, 1)]],
                  BRANCH, [(3, [let], []), NONE_SEEN], 0, 1)
        self.told(None, BRANCH, [(3, [let], [load_of_carts([(2, 1), (3, 1), (1, 3)])]), NONE_SEEN], 0, 1)
        self.told(None, BRANCH, [(3, [let], [load_of_carts([(3, 1), (1, 2)])]), NONE_SEEN], 0, 1)

    def test_a_load_that_was_let_twice_and_an_empty_one(self):
        self.told([EACH_WAY, TWO_ON], LINE, [NONE_SEEN, (2, [TWO_ON, [], tuple(TWO_ON), ONE_CART], []), NONE_SEEN], 2, 1)

    def test_lists_are_new(self):
        load = [(3, 1, 1)]
        knowns = [NONE_SEEN, (2, [load, TWO_ON], []), NONE_SEEN]
        told = freeing(LINE, knowns, 2, 1)
        for part in told + [told]:
            part.append(1)
        self.assertEqual([load, TWO_ON, freeing(LINE, knowns, 2, 1)], [[(3, 1, 1)], [(1, 3, 2)], [EACH_WAY, TWO_ON]])


class VerdictTest(Case):
    def told(self, wanted, country, knowns):
        self.assertEqual(verdict(country, knowns), wanted)
        self.assertEqual(verdict(knowns=tuple(knowns), country=country), wanted)
        found = fillings(country, knowns)
        self.assertEqual([type(found), len(found)], [tuple, 2])
        self.assertEqual(fillings(knowns=knowns, country=country), found)
        for filling, is_there in zip(found, [wanted != "can", wanted != "never"]):
            self.says(is_there, filling is not None)
            if is_there:
                self.says(True, is_filling(country, knowns, filling))
                self.assertTrue(max(len(loads) for loads in filling) <= 100)
                self.assertEqual({type(filling)} | {type(part) for loads in filling for part in [loads] + loads}, {list})
                self.says(filling is found[0], filled_posts(country, filling) != [])

    def test_the_example_of_the_document(self):
        self.told("open", LINE, [(2, [], []), (2, [], []), (2, [], [])])
        self.told("can", LINE, [(1, [], []), (1, [], []), (1, [], [])])
        self.told("never", LINE, SEEN)
        self.assertEqual(filled_posts(LINE, fillings(LINE, SEEN)[0])[-1], 3)
        self.assertEqual([can_be_plugged(LINE, SEEN, 1, 2), can_be_plugged(LINE, SEEN, 2, 3)], [False, False])

    def test_one_yard(self):
        self.told("never", SHORT, [(1, [], [])])
        self.told("never", SHORT, [(6, [[(0, 2, 3)]], [[(0, 2, 1), (2, 0, 1)]])])

    def test_two_yards(self):
        self.told("open", PAIR, [NONE_SEEN, (1, [], [])])
        self.told("can", PAIR, [(2, [[(0, 2, 2)]], []), (1, [], [])])
        self.told("can", PAIR, [(2, [], [[(0, 2, 1), (2, 0, 1)]]), (1, [], [])])
        self.told("never", PAIR, [SEEN[0], (1, [], [])])
        self.told("open", PAIR, [(2, [[(0, 2, 1), (2, 0, 1)]], []), (1, [], [])])

    def test_the_greatest_country(self):
        self.told("open", FULL, [(6, [], [])] * 7)
        self.told("can", FULL, [(1, [], [])] * 7)

    def test_lists_are_their_own(self):
        let = [(1, 3, 1), (3, 1, 1)]
        knowns = [NONE_SEEN, (2, [let, let], []), NONE_SEEN]
        for which in [0, 1]:
            told = fillings(LINE, knowns)[which]
            lists = [told] + [part for loads in told for part in [loads] + loads]
            self.assertEqual(len({id(part) for part in lists}), len(lists))
            for part in lists:
                part.append(1)
            self.assertEqual(let, EACH_WAY)
            self.assertNotEqual(fillings(LINE, knowns)[which], told)


class IsFillingTest(Case):
    def is_one(self, wanted, knowns, *values):
        for value in values:
            with self.subTest(value=repr(value)):
                self.says(wanted, is_filling(LINE, knowns, value))
                self.says(wanted, is_filling(value=value, knowns=tuple(knowns), country=LINE))

    def of_yard_2(self, loads):
        return [SINGLES[0], loads, SINGLES[2]]

    def test_fillings(self):
        self.is_one(True, NOTHING, SINGLES, tuple(SINGLES), tuple(tuple(tuple(load) for load in loads) for loads in SINGLES))
        self.is_one(True, NOTHING, *[self.of_yard_2(loads) for loads in
                                     [[EACH_WAY], [EACH_WAY, TWO_ON], [TWO_ON, TWO_BACK], [EACH_WAY, TWO_ON, TWO_BACK],
                                      [TWO_ON, [(3, 1, 1)]], [ONE_CART, TWO_BACK], [tuple(EACH_WAY), TWO_ON]]])

    def test_not_sorted(self):
        self.is_one(False, NOTHING, self.of_yard_2([TWO_ON, EACH_WAY]), self.of_yard_2([[(3, 1, 1)], ONE_CART]),
                    self.of_yard_2([tuple(TWO_ON), EACH_WAY]))

    def test_at_most_another_one(self):
        self.is_one(False, NOTHING, self.of_yard_2([ONE_CART, EACH_WAY]), self.of_yard_2([EACH_WAY, EACH_WAY]),
                    self.of_yard_2([EACH_WAY, [(3, 1, 1)]]), self.of_yard_2([[], EACH_WAY]),
                    self.of_yard_2([EACH_WAY, tuple(EACH_WAY)]))

    def test_all_that_is_surely_let(self):
        self.is_one(False, NOTHING, *[self.of_yard_2(loads) for loads in [[], [[]], [ONE_CART], [TWO_BACK]]])
        let = [NONE_SEEN, (3, [TWO_ON, EACH_WAY], []), NONE_SEEN]
        self.is_one(True, let, self.of_yard_2([EACH_WAY, TWO_ON]), self.of_yard_2([[(1, 3, 2), (3, 1, 1)]]))
        self.is_one(False, let, *[self.of_yard_2(loads) for loads in [[EACH_WAY], [TWO_ON, TWO_BACK], [EACH_WAY, TWO_BACK]]])

    def test_none_that_is_surely_refused(self):
        self.is_one(False, NOTHING, self.of_yard_2([[(1, 3, 1), (3, 1, 2)]]), self.of_yard_2([[(1, 3, 3)], [(3, 1, 1)]]),
                    self.of_yard_2([[(1, 3, 10 ** 29)], [(3, 1, 1)]]))
        refused = [NONE_SEEN, (3, [], [TWO_ON]), NONE_SEEN]
        self.is_one(True, refused, self.of_yard_2([[(1, 3, 1), (3, 1, 2)]]), SINGLES)
        self.is_one(False, refused, self.of_yard_2([TWO_ON, [(3, 1, 1)]]), self.of_yard_2([[(1, 3, 2), (3, 1, 1)]]))

    def test_each_yard_counts(self):
        self.is_one(False, NOTHING, [[], SINGLES[1], SINGLES[2]], SINGLES[:2] + [[]], SINGLES[:2], SINGLES + [SINGLES[2]],
                    SINGLES[::-1], [SINGLES[1]] * 3)

    def test_any_value(self):
        self.is_one(False, NOTHING, *ODD, *ODD_LISTS, {1: 2, 2: 3, 3: 4}, "abc", [None] * 3, [[[None]]] * 3, NOTHING)
        self.is_one(False, NOTHING, *[self.of_yard_2(odd) for odd in ODD + ODD_LISTS + [ONE_CART, {1: EACH_WAY}]])
        self.is_one(False, NOTHING, *[self.of_yard_2([EACH_WAY, odd]) for odd in BAD_LOADS + ODD])
        self.is_one(False, NOTHING, *[self.of_yard_2([odd, EACH_WAY]) for odd in BAD_LOADS + ODD])

    def test_more_than_100_loads(self):
        filling = [filling_of_cross(120), [[(0, 5, 1)], [(5, 0, 1)]]]
        self.says(True, is_filling(CROSS, [(3, [], []), NONE_SEEN], filling))
        self.says(False, is_filling(CROSS, [(2, [], []), NONE_SEEN], filling))


class FilledPostsTest(Case):
    def told(self, wanted, country, filling):
        self.assertEqual(filled_posts(country, filling), wanted)
        self.assertEqual(filled_posts(filling=tuple(tuple(loads) for loads in filling), country=country), wanted)

    def test_posts(self):
        self.told([], LINE, SINGLES)
        self.told([3], LINE, [[[(0, 2, 1), (2, 0, 1)]], [EACH_WAY], SINGLES[2]])
        self.told([1, 2, 3], LINE, [[[(0, 2, 1), (2, 0, 1)]], [EACH_WAY], [[(2, 4, 1), (4, 2, 1)]]])
        self.told([2], LINE, [[[(0, 2, 1), (2, 0, 1)]], [TWO_ON, TWO_BACK], [[(2, 4, 1), (4, 2, 1)]]])
        self.told([1], SHORT, [[[(0, 2, 1)], [(2, 0, 1)]]])

    def test_great_counts(self):
        many = 10 ** 29
        self.told([1, 2, 3], LINE, [[[(0, 2, many), (2, 0, many)]], [[(1, 3, 1), (3, 1, many)], [(1, 3, many), (3, 1, 1)]],
                                    [[(2, 4, 1), (4, 2, 1)]]])
        self.told([2], LINE, [[[(0, 2, many), (2, 0, many)]], [[(1, 3, many)], [(3, 1, many)]], [[(2, 4, 1), (4, 2, 1)]]])
        self.told([], LINE, [[[(0, 2, 1), (2, 0, many)]], [EACH_WAY, [(1, 3, many)]], [[(2, 4, 1)], [(4, 2, many)]]])

    def test_of_just_100_loads(self):
        for taken in [100, 101]:
            filling = [filling_of_cross(taken), [[(0, 5, 1)], [(5, 0, 1)]]]
            self.assertEqual(len(filling[0]), taken)
            if taken == 100:
                self.told(slow_filled_posts(CROSS, filling), CROSS, filling)
            else:
                self.fails(InvalidFilling, {"value": filling}, filled_posts, CROSS, filling)

    def test_wrong_fillings(self):
        wrong = [[], (), SINGLES[:2], SINGLES + [SINGLES[2]], SINGLES[::-1], {1: 2, 2: 3, 3: 4}, [SINGLES[0], [], SINGLES[2]],
                 [SINGLES[0], [[]], SINGLES[2]], [SINGLES[0], [ONE_CART], SINGLES[2]], [SINGLES[0], [TWO_ON], SINGLES[2]],
                 [SINGLES[0], [TWO_ON, EACH_WAY], SINGLES[2]], [SINGLES[0], [ONE_CART, EACH_WAY], SINGLES[2]],
                 [SINGLES[0], [EACH_WAY, EACH_WAY], SINGLES[2]], [SINGLES[0], EACH_WAY, SINGLES[2]], SINGLES[0],
                 [SINGLES[0], {1: EACH_WAY}, SINGLES[2]], [[], SINGLES[1], SINGLES[2]], SINGLES[:2] + [[]]]
        wrong += [[SINGLES[0], [EACH_WAY, odd], SINGLES[2]] for odd in BAD_LOADS + ODD]
        self.refuses(filled_posts, ("country", LINE, InvalidCountry, NO_COUNTRY),
                     ("filling", SINGLES, InvalidFilling, wrong + ODD + ODD_LISTS))


class WrongInputsTest(Case):
    def test_in_their_sequence(self):
        country = ("country", LINE, InvalidCountry, NO_COUNTRY)
        knowns = ("knowns", NOTHING, InvalidKnowns, NO_LISTS + ODD + ODD_LISTS)
        yard, target = ("yard", 1, InvalidYard, NO_YARD), ("target", 2, InvalidTarget, NO_YARD_AHEAD_OF_1)
        for call in [can_be_plugged, can_be_free, plugging, freeing]:
            self.refuses(call, country, knowns, yard, target)
        self.refuses(verdict, country, knowns)
        self.refuses(fillings, country, knowns)
        self.refuses(is_filling, country, knowns, ("value", SINGLES))

    def test_twelve_loads_and_more(self):
        for known, is_one in [((2, [EACH_WAY] * 12, [TWO_ON] * 12), True), ((2, [EACH_WAY] * 13, []), False),
                              ((2, [], [TWO_ON] * 13), False)]:
            knowns = [NONE_SEEN, known, NONE_SEEN]
            if is_one:
                self.assertEqual(verdict(LINE, knowns), "open")
                self.fails(TooMany, {"what": "loads", "limit": 12}, noted, LINE, 2, known, TWO_ON, "refused")
            else:
                self.fails(InvalidKnowns, {"value": knowns}, verdict, LINE, knowns)


class FactsTest(Case):
    def test_sides_against_all_fillings(self):
        chance = random.Random(32)
        found = {}
        for at in range(100):
            country, yard, places = (LINE, 2, 3) if at % 2 else (BRANCH, 0, 2)
            around = country.neighbours(yard)
            known = any_known(chance, country, yard, chance.randint(1, places), 3 if at % 2 else 12)
            every = all_fillings(around, known) if self.few_open(around, known) else []
            knowns = [known if one == yard else NONE_SEEN for one in country.yards]
            for target in [near for near in around if near in country.yards]:
                if every:
                    plugged = [slow_plugged_by(around, standing, target) for standing in every]
                    self.says(any(plugged), can_be_plugged(country, knowns, yard, target))
                    self.says(not all(plugged), can_be_free(country, knowns, yard, target))
                    self.check_least(every, plugged, freeing(country, knowns, yard, target))
                    found[(any(plugged), all(plugged))] = found.get((any(plugged), all(plugged)), 0) + 1
                self.check_plugging(around, known, target, plugging(country, knowns, yard, target))
        self.assertEqual(len(found), 3)

    def few_open(self, around, known):
        return len([load for load in loads_up_to(around, known[0]) if not slow_surely_let(known, load)
                    and not slow_surely_refused(known, load)]) <= 9

    def check_least(self, every, plugged, told):
        """The least of the fillings in which the side is not plugged: what stands by it stands by all of these."""
        free = [standing for standing, is_plugged in zip(every, plugged) if not is_plugged]
        if told is None:
            self.assertEqual(free, [])
        else:
            least = min(free, key=len)
            self.assertEqual(told, greatest_of(least))
            self.assertEqual([standing for standing in free if any(load not in standing for load in least)], [])

    def check_plugging(self, around, known, target, told):
        shown = []
        for load in loads_up_to(around, known[0]):
            carts = [(a, b) for a, b, many in load for _ in range(many)]
            if carts and all(pair[1] == target for pair in carts) and not slow_surely_refused(known, load):
                shown += [(len(carts), load, near) for near in around
                          if near != target and not slow_surely_let(known, load_of_carts(carts + [(target, near)]))]
        self.assertEqual(told, min(shown)[1:] if shown else None)

    def test_verdicts_against_all_fillings(self):
        chance = random.Random(33)
        found = {"never": 0, "can": 0, "open": 0}
        for at in range(150):
            country = LINE if at % 3 else PAIR
            knowns = [any_known(chance, country, yard, chance.choice([1, 2, 2, 3]), 4) for yard in country.yards]
            wanted = self.slow_verdict(country, knowns)
            self.assertEqual(verdict(country, knowns), wanted)
            found[wanted] += 1
            never, stuck = fillings(country, knowns)
            self.assertEqual([never is None, stuck is None], [wanted == "can", wanted == "never"])
            for filling, is_stuck in [(never, False), (stuck, True)]:
                if filling is not None:
                    self.says(True, is_filling(country, knowns, filling))
                    self.says(is_stuck, slow_filled_posts(country, filling) == [])
                    self.assertEqual(filled_posts(country, filling), slow_filled_posts(country, filling))
        self.assertTrue(min(found.values()) > 10, found)

    def slow_verdict(self, country, knowns):
        ways = []
        for yard, known in zip(country.yards, knowns):
            around = country.neighbours(yard)
            sides = [(yard, near) for near in around if near in country.yards]
            ways.append({tuple(side for side in sides if slow_plugged_by(around, standing, side[1]))
                         for standing in all_fillings(around, known)})
        stuck = {slow_facing(country, sum(chosen, ())) != [] for chosen in itertools.product(*ways)}
        return "open" if len(stuck) == 2 else "can" if True in stuck else "never"

    def test_books_that_fit_are_told_by_fillings(self):
        chance = random.Random(34)
        seen = {}
        for at in range(60):
            country = random_country(chance)
            make = (lambda yard: random_book(chance, country.neighbours(yard), 3)) if at % 2 else \
                   (lambda yard: bounded_book(chance, country, yard, 3))
            web = Web(country, [make(yard) for yard in country.yards])
            if any(len(country.neighbours(yard)) == 4 for yard in country.yards):
                continue
            filling = [greatest_loads(web, yard) for yard in country.yards]
            if max(len(loads) for loads in filling) <= 100:
                self.assertEqual(filled_posts(country, filling), posts(web))
            knowns = [(max(places for places, _ in web.book(yard)), [], []) for yard in country.yards]
            ahead = verdict(country, knowns)
            for _ in range(40):
                knowns = self.more_known(chance, web, knowns)
                told = verdict(country, knowns)
                self.assertIn(ahead, ["open", told])
                ahead = told
            for yard, known in zip(country.yards, knowns):
                self.says(True, fits(country, yard, known, web.book(yard)))
            self.says(True, is_filling(country, knowns, filling))
            self.assertIn((told, can_be_stuck(web)), [("open", True), ("open", False), ("can", True), ("never", False)])
            seen[told] = True
        self.assertEqual(len(seen), 3)

    def more_known(self, chance, web, knowns):
        """The knowns with one load more, let or refused as the web does it."""
        country = web.country
        yard = chance.choice(country.yards)
        known = knowns[country.yards.index(yard)]
        around = country.neighbours(yard)
        load = load_of_carts(chance.choices([(a, b) for a in around for b in around if a != b], k=chance.randint(1, 3)))
        is_let = any(slow_is_at_most(load, great) for great in greatest_loads(web, yard))
        if len(known[1 if is_let else 2]) == 12:
            return knowns
        more = noted(country, yard, known, load, "let" if is_let else "refused")
        return [more if one == yard else other for one, other in zip(country.yards, knowns)]

    def test_sides_of_all_yards(self):
        knowns = [NONE_SEEN] * 7
        for yard, target in slow_sides(FULL):
            self.says(True, can_be_plugged(FULL, knowns, yard, target))
            self.says(True, can_be_free(FULL, knowns, yard, target))


if __name__ == "__main__":
    unittest.main()
