import random
import unittest

from helpers import FULL, LINE, ODD, ODD_LISTS, SHORT, STAR, Case, all_steps, loads_up_to, random_load, random_walk
from helpers import random_web, slow_outcome, slow_stands, slow_way
from lanekeepers.errors import InvalidCountry, InvalidLoad, InvalidStand, InvalidSteps, InvalidWeb, InvalidYard
from lanekeepers.loads import lets
from lanekeepers.stands import is_stand
from lanekeepers.steps import after
from lanekeepers.turns import turned, turned_load, turned_stand, turned_steps
from lanekeepers.webs import Web
from wrong import BAD_LOADS, NO_CARTS, NO_COUNTRY, NO_STANDS, NO_STEP_LISTS, NO_WEB, NO_YARD, PLAIN_ROW

PLAIN = [(2, [])]
KEPT = Web(LINE, [[(2, [(None, 2, 1)])], [(2, [(None, 3, 1)])], PLAIN])


class TurnedWebTest(Case):
    def test_origin_and_target_are_exchanged(self):
        self.assertEqual(turned(KEPT).books, [[(2, [(2, None, 1)])], [(2, [(3, None, 1)])], PLAIN])
        book = [(3, [(3, 1, 0), (None, 3, 2), (1, None, 1), (1, 3, 6)]), (1, []), (2, [(3, 1, 1), (3, 1, 0)])]
        web = turned(web=Web(LINE, [PLAIN, book, PLAIN]))
        self.assertEqual(web.books, [PLAIN, [(3, [(1, 3, 0), (3, None, 2), (None, 1, 1), (3, 1, 6)]), (1, []),
                                             (2, [(1, 3, 1), (1, 3, 0)])], PLAIN])
        self.says(True, web.country == LINE)
        self.assertIs(type(web), Web)

    def test_twice_and_not_at_all(self):
        self.says(True, turned(turned(KEPT)) == KEPT)
        self.says(False, turned(KEPT) == KEPT)
        self.says(True, turned(PLAIN_ROW) == PLAIN_ROW)

    def test_the_web_stays_as_it_was(self):
        turned(KEPT).books[0].append(1)
        self.assertEqual(KEPT.books, [[(2, [(None, 2, 1)])], [(2, [(None, 3, 1)])], PLAIN])


class TurnedLoadTest(Case):
    def test_loads(self):
        self.assertEqual(turned_load(LINE, 2, [(1, 3, 2), (3, 1, 1)]), [(1, 3, 1), (3, 1, 2)])
        self.assertEqual(turned_load(load=((1, 3, 5),), yard=2, country=LINE), [(3, 1, 5)])
        self.assertEqual(turned_load(LINE, 2, ()), [])
        self.assertEqual(turned_load(STAR, 0, [(1, 2, 1), (1, 3, 10 ** 29), (3, 2, 4)]), [(2, 1, 1), (2, 3, 4), (3, 1, 10 ** 29)])

    def test_lists_are_new(self):
        load = [(1, 3, 1)]
        turned_load(LINE, 2, load).append(1)
        self.assertEqual(load, [(1, 3, 1)])
        empty = []
        turned_load(LINE, 2, empty).append(1)
        self.assertEqual(empty, [])


class TurnedStandTest(Case):
    def test_stands(self):
        self.assertEqual(turned_stand(KEPT, [(1, 0, 4), (3, 4, 0)]), [(1, 4, 0), (3, 0, 4)])
        self.assertEqual(turned_stand(stand=((3, 4, 0), (2, 0, 4), (3, 0, 4)), web=PLAIN_ROW), [(2, 4, 0), (3, 0, 4), (3, 4, 0)])
        self.assertEqual(turned_stand(PLAIN_ROW, []), [])
        self.assertEqual(turned_stand(PLAIN_ROW, ((1, 0, 4),) * 2), [(1, 4, 0)] * 2)

    def test_a_stand_of_the_web_and_not_of_the_turned_one(self):
        stand = [(1, 4, 0), (1, 4, 0)]
        self.assertEqual(turned_stand(KEPT, stand), [(1, 0, 4), (1, 0, 4)])
        self.fails(InvalidStand, {"value": stand}, turned_stand, turned(KEPT), stand)


class TurnedStepsTest(Case):
    def test_each_kind(self):
        self.assertEqual(turned_steps(LINE, [("in", 0, 4)]), [("on", 1, 4, 0)])
        self.assertEqual(turned_steps(LINE, [("on", 1, 0, 4)]), [("on", 2, 4, 0)])
        self.assertEqual(turned_steps(LINE, [("on", 3, 0, 4)]), [("in", 4, 0)])
        self.assertEqual(turned_steps(STAR, [("in", 5, 6)]), [("on", 2, 6, 5)])
        self.assertEqual(turned_steps(STAR, [("on", 0, 5, 6)]), [("on", 3, 6, 5)])
        self.assertEqual(turned_steps(SHORT, [("in", 0, 2), ("on", 1, 0, 2)]), [("in", 2, 0), ("on", 1, 2, 0)])

    def test_the_last_one_first(self):
        steps = [("in", 0, 4), ("on", 1, 0, 4), ("on", 3, 0, 4)]
        wanted = [("in", 4, 0), ("on", 2, 4, 0), ("on", 1, 4, 0)]
        self.assertEqual(turned_steps(LINE, steps), wanted)
        self.assertEqual(turned_steps(steps=tuple(steps), country=LINE), wanted)
        self.assertIs(type(turned_steps(LINE, tuple(steps))), list)
        self.assertEqual(steps, [("in", 0, 4), ("on", 1, 0, 4), ("on", 3, 0, 4)])

    def test_none(self):
        empty = []
        turned_steps(LINE, empty).append(1)
        self.assertEqual([turned_steps(LINE, empty), turned_steps(LINE, ())], [[], []])

    def test_400_steps_and_more(self):
        steps = [("on", 2, 0, 4)] * 399
        self.assertEqual(turned_steps(LINE, steps + [("in", 4, 0)]), [("on", 3, 0, 4)] + [("on", 3, 4, 0)] * 399)
        self.fails(InvalidSteps, {"value": steps + [("in", 4, 0)] * 2}, turned_steps, LINE, steps + [("in", 4, 0)] * 2)
        self.fails(InvalidSteps, {"value": tuple(steps) + (("in", 4, 0),) * 2}, turned_steps, LINE,
                   tuple(steps) + (("in", 4, 0),) * 2)

    def test_each_step_of_a_country_and_back(self):
        for country in [LINE, STAR, FULL]:
            for step in all_steps(country):
                back = turned_steps(country, [step])[0]
                self.assertIs(type(back), tuple)
                self.assertEqual(turned_steps(country, [back]), [step])
                start, end = step[-2:]
                self.assertEqual(back[-2:], (end, start))
                walk = slow_way(country, start, end)
                # What goes from the one place to the other now goes back between the same two.
                at = 0 if step[0] == "in" else walk.index(step[1])
                self.assertEqual(back[:-2], ("in",) if at == len(walk) - 2 else ("on", walk[at + 1]))


class WrongInputsTest(Case):
    def test_in_their_sequence(self):
        country, web = ("country", LINE, InvalidCountry, NO_COUNTRY), ("web", PLAIN_ROW, InvalidWeb, NO_WEB)
        loads = BAD_LOADS + ODD + ODD_LISTS
        self.refuses(turned, web)
        self.refuses(turned_load, country, ("yard", 2, InvalidYard, NO_YARD), ("load", [], InvalidLoad, loads))
        stands = NO_STANDS + ODD + ODD_LISTS + [[cart] for cart in NO_CARTS]
        self.refuses(turned_stand, web, ("stand", [], InvalidStand, stands))
        self.refuses(turned_steps, country, ("steps", [], InvalidSteps, NO_STEP_LISTS))


class FactsTest(Case):
    def test_loads_that_stand(self):
        chance = random.Random(26)
        for _ in range(25):
            web = random_web(chance, 4)
            back = turned(web)
            self.says(True, turned(back) == web)
            for yard in web.country.yards:
                around = web.country.neighbours(yard)
                for load in list(loads_up_to(around, 2)) + [random_load(chance, around) for _ in range(5)]:
                    other = turned_load(web.country, yard, load)
                    self.assertEqual(turned_load(web.country, yard, other), load)
                    self.assertEqual(lets(back, yard, other), slow_stands(web.book(yard), load))

    def test_stands_and_steps(self):
        chance = random.Random(27)
        for _ in range(25):
            web = random_web(chance)
            steps, stands = random_walk(chance, web, 40)
            back = turned(web)
            for stand in stands:
                self.says(True, is_stand(back, turned_stand(web, stand)))
                self.assertEqual(turned_stand(back, turned_stand(web, stand)), stand)
            self.assertEqual(turned_steps(web.country, turned_steps(web.country, steps)), steps)
            told = turned_stand(web, stands[-1])
            self.assertEqual(after(back, told, turned_steps(web.country, steps)), [])
            for step, stand in list(zip(turned_steps(web.country, steps), stands[-2::-1])):
                told = slow_outcome(back, told, step)
                self.assertEqual(told, turned_stand(web, stand))


if __name__ == "__main__":
    unittest.main()
