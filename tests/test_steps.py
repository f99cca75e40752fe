import random
import unittest

from helpers import LINE, ODD, ODD_LISTS, STAR, Case, all_steps, random_walk, random_web, slow_load, slow_outcome, slow_way
from lanekeepers.countries import Country
from lanekeepers.errors import InvalidCart, InvalidCountry, InvalidMany, InvalidStep, InvalidSteps, InvalidWeb, NoCart
from lanekeepers.errors import Refused, StepFails
from lanekeepers.steps import after, can_step, is_script, is_step, is_stuck, refused, stepped, why_refused
from lanekeepers.webs import Web
from wrong import NO_STEPS

PLAIN = [(2, [])]
ROW = Web(LINE, [PLAIN] * 3)
WIDE = Web(LINE, [[(6, [])]] * 3)
JAM = [("in", 4, 0), ("on", 3, 4, 0), ("in", 4, 0), ("on", 3, 4, 0), ("in", 0, 4), ("in", 0, 4)]
JAMMED = [(1, 0, 4), (1, 0, 4), (2, 4, 0), (2, 4, 0)]
IN, OUT = ("in", 0, 4), [("on", 1, 0, 4), ("on", 2, 0, 4), ("on", 3, 0, 4)]


class IsStepTest(Case):
    def test_steps(self):
        for step in [("in", 0, 4), ("in", 4, 0), ("on", 1, 0, 4), ("on", 3, 4, 0), ("on", 3, 0, 4)]:
            self.says(True, is_step(LINE, step))
        self.says(True, is_step(value=("on", 0, 4, 5), country=STAR))
        self.says(False, is_step(STAR, ("on", 3, 4, 5)))

    def test_no_steps(self):
        for odd in NO_STEPS + ODD + ODD_LISTS + [LINE, ROW]:
            with self.subTest(odd=repr(odd)):
                self.says(False, is_step(LINE, odd))

    def test_wrong_country(self):
        self.fails_for(InvalidCountry, ODD + ODD_LISTS + [ROW], lambda odd: is_step(odd, IN))


class SteppedTest(Case):
    def done(self, web, stand, step, wanted):
        self.says(True, can_step(web, stand, step))
        told = stepped(web, stand, step)
        self.assertEqual(told, wanted)
        self.assertIs(type(told), list)
        self.assertEqual(stepped(step=step, stand=tuple(stand), web=web), wanted)
        self.assertEqual(after(web, stand, [step]), wanted)

    def refused(self, web, stand, step):
        self.says(False, can_step(web, stand, step))
        self.fails(Refused, {}, stepped, web, stand, step)
        self.fails(StepFails, {"position": 0}, after, web, stand, [step])

    def test_in(self):
        self.done(ROW, [], IN, [(1, 0, 4)])
        self.done(ROW, [(1, 4, 0)], IN, [(1, 0, 4), (1, 4, 0)])
        self.done(Web(STAR, [PLAIN] * 4), [], ("in", 6, 4), [(3, 6, 4)])
        self.refused(ROW, [(1, 4, 0)] * 2, IN)
        self.done(ROW, [(2, 4, 0)] * 2, IN, [(1, 0, 4), (2, 4, 0), (2, 4, 0)])

    def test_on(self):
        self.done(ROW, [(1, 0, 4)], ("on", 1, 0, 4), [(2, 0, 4)])
        self.done(ROW, [(3, 4, 0), (2, 4, 0), (2, 4, 0)], ("on", 2, 4, 0), [(1, 4, 0), (2, 4, 0), (3, 4, 0)])
        self.refused(ROW, [(1, 0, 4), (2, 4, 0), (2, 4, 0)], ("on", 1, 0, 4))
        self.refused(ROW, JAMMED, ("on", 1, 0, 4))
        self.refused(ROW, JAMMED, ("on", 2, 4, 0))

    def test_out_is_always_let(self):
        self.done(ROW, [(3, 0, 4)], ("on", 3, 0, 4), [])
        self.done(ROW, [(3, 0, 4), (3, 0, 4), (1, 4, 0)], ("on", 3, 0, 4), [(1, 4, 0), (3, 0, 4)])

    def test_the_book_of_the_yard_that_it_comes_to(self):
        web = Web(LINE, [PLAIN, [(3, [(1, None, 1)])], PLAIN])
        self.refused(web, [(1, 0, 4), (2, 0, 4)], ("on", 1, 0, 4))
        self.done(web, [(2, 0, 4), (3, 4, 0)], ("on", 3, 4, 0), [(2, 0, 4), (2, 4, 0)])
        parted = Web(LINE, [PLAIN, [(3, [(3, None, 0)]), (1, [])], PLAIN])
        self.done(parted, [(1, 0, 4), (2, 0, 4), (2, 0, 4)], ("on", 1, 0, 4), [(2, 0, 4)] * 3)
        self.refused(parted, [(3, 4, 0), (2, 0, 4)], ("on", 3, 4, 0))
        self.done(parted, [(3, 4, 0)], ("on", 3, 4, 0), [(2, 4, 0)])

    def test_no_cart(self):
        for stand, step in [([], ("on", 1, 0, 4)), ([(2, 0, 4), (1, 4, 0)], ("on", 1, 0, 4)), (JAMMED, ("on", 3, 0, 4))]:
            self.says(False, can_step(ROW, stand, step))
            self.fails(NoCart, {"value": step[1:]}, stepped, ROW, stand, step)
            self.fails(StepFails, {"position": 0}, after, ROW, stand, [step])

    def test_no_cart_comes_ahead_of_refused(self):
        self.fails(NoCart, {"value": (1, 0, 4)}, stepped, ROW, [(2, 4, 0)] * 2, ("on", 1, 0, 4))

    def test_wrong_steps(self):
        for call in [can_step, stepped]:
            self.fails_for(InvalidStep, NO_STEPS + ODD + ODD_LISTS, lambda odd: call(ROW, [], odd))
            self.fails_for(InvalidStep, NO_STEPS, lambda odd: call(step=odd, stand=[], web=ROW))
        self.fails(InvalidStep, {"value": ("on", True, 0, 4)}, stepped, ROW, [(1, 0, 4)], ("on", True, 0, 4))

    def test_arguments_stay_as_they_were(self):
        stand, steps = [(2, 4, 0), (1, 0, 4)], [("on", 2, 4, 0)]
        for call in [lambda: stepped(ROW, stand, steps[0]), lambda: after(ROW, stand, steps), lambda: can_step(ROW, stand, IN),
                     lambda: refused(ROW, stand), lambda: is_stuck(ROW, stand), lambda: is_script(ROW, steps, 3)]:
            call()
            self.assertEqual((stand, steps), ([(2, 4, 0), (1, 0, 4)], [("on", 2, 4, 0)]))


class AfterTest(Case):
    def test_one_after_the_other(self):
        self.assertEqual(after(ROW, [], JAM), JAMMED)
        self.assertEqual(after(steps=tuple(JAM[4:]), stand=((2, 4, 0), (2, 4, 0)), web=ROW), JAMMED)
        self.assertEqual(after(ROW, [], [IN] + OUT), [])

    def test_no_steps(self):
        self.assertEqual(after(ROW, [], []), [])
        stand = [(2, 4, 0), (1, 0, 4)]
        told = after(ROW, stand, ())
        self.assertEqual(told, [(1, 0, 4), (2, 4, 0)])
        told.append(1)
        self.assertEqual(stand, [(2, 4, 0), (1, 0, 4)])
        self.assertEqual(after(ROW, stand, []), [(1, 0, 4), (2, 4, 0)])

    def test_the_first_that_fails(self):
        self.fails(StepFails, {"position": 6}, after, ROW, [], JAM + [("on", 1, 0, 4), ("on", 3, 0, 4)])
        self.fails(StepFails, {"position": 1}, after, ROW, [], [IN, ("on", 2, 0, 4), IN])
        self.fails(StepFails, {"position": 2}, after, ROW, [], [IN] * 4)

    def test_400_steps_and_more(self):
        turns = ([IN] + OUT) * 100
        self.assertEqual(after(ROW, [], turns), [])
        self.assertEqual(after(ROW, [], turns[:399]), [(3, 0, 4)])
        self.fails(InvalidSteps, {"value": turns + [IN]}, after, ROW, [], turns + [IN])
        self.fails(InvalidSteps, {"value": tuple(turns + [IN])}, after, ROW, [], tuple(turns + [IN]))
        self.fails(StepFails, {"position": 399}, after, ROW, [], turns[:399] + OUT[:1])
        self.says(True, is_script(ROW, turns, 1))
        self.says(False, is_script(ROW, turns + [IN], 42))

    def test_wrong_steps(self):
        self.fails_for(InvalidSteps, ODD + ODD_LISTS + NO_STEPS[:-4] + [("in", 0, 4), {IN: 1}], lambda odd: after(ROW, [], odd))
        for odd in NO_STEPS + ODD:
            with self.subTest(odd=repr(odd)):
                self.fails(InvalidSteps, {"value": [odd]}, after, ROW, [], [odd])
                # A wrong step is found ahead of one that can't be done.
                self.fails(InvalidSteps, {"value": [("on", 1, 0, 4), odd]}, after, steps=[("on", 1, 0, 4), odd], stand=[], web=ROW)


class StuckTest(Case):
    def test_refused(self):
        self.assertEqual(refused(ROW, JAMMED), [(1, 0, 4), (2, 4, 0)])
        self.assertEqual(refused(ROW, []), [])
        self.assertEqual(refused(stand=((2, 4, 0), (1, 0, 4), (2, 4, 0)), web=ROW), [(1, 0, 4)])
        self.assertEqual(refused(ROW, [(2, 4, 0), (1, 0, 4)]), [])
        self.assertEqual(refused(ROW, [(2, 4, 0), (3, 4, 0), (1, 0, 4), (2, 4, 0)]), [(1, 0, 4), (3, 4, 0)])
        told = refused(ROW, JAMMED)
        told.append(1)
        self.assertEqual(refused(ROW, JAMMED), [(1, 0, 4), (2, 4, 0)])

    def test_is_stuck(self):
        self.says(True, is_stuck(ROW, JAMMED))
        self.says(True, is_stuck(stand=tuple(JAMMED[::-1]), web=ROW))
        self.says(False, is_stuck(ROW, []))
        self.says(False, is_stuck(ROW, ()))
        self.says(False, is_stuck(ROW, JAMMED[1:]))
        self.says(False, is_stuck(ROW, JAMMED + [(3, 0, 4)]))
        self.says(True, is_stuck(ROW, JAMMED + [(3, 4, 0)]))

    def test_why_refused(self):
        self.assertEqual(why_refused(ROW, JAMMED, (1, 0, 4)), [None])
        book = [(3, [(3, 1, 2), (1, 3, 0), (None, 3, 0)]), (2, []), (6, [(1, None, 0)]), (2, [(1, None, 0)])]
        web = Web(LINE, [PLAIN, book, PLAIN])
        stand = [(1, 0, 4), (2, 4, 0), (2, 4, 0)]
        self.assertEqual(why_refused(web, stand, (1, 0, 4)), [1, None, 0, None])
        self.assertEqual(why_refused(cart=(1, 0, 4), stand=tuple(stand), web=web), [1, None, 0, None])

    def test_places_bar_ahead_of_bounds(self):
        web = Web(LINE, [PLAIN, [(1, [(1, None, 1)]), (3, [(3, None, 6), (1, None, 1)])], PLAIN])
        self.assertEqual(why_refused(web, [(1, 0, 4), (2, 0, 4)], (1, 0, 4)), [None, 1])

    def test_no_refused_carts(self):
        stand = [(1, 0, 4), (1, 4, 0), (2, 4, 0), (2, 4, 0)]
        self.assertEqual(why_refused(ROW, stand, (1, 0, 4)), [None])
        odd_carts = [(1, 4, 0), (3, 4, 0), (2, 0, 4), (True, 0, 4), (1, False, 4), [1, 0, 4], (1, 0), (0, 0, 4), (1, 0, 4, 1)]
        self.fails_for(InvalidCart, ODD + ODD_LISTS + odd_carts, lambda odd: why_refused(ROW, stand, odd))
        self.fails(InvalidCart, {"value": (1, 0, 4)}, why_refused, cart=(1, 0, 4), stand=[(1, 0, 4)], web=ROW)
        self.fails(InvalidCart, {"value": (1, 0, 4)}, why_refused, ROW, [], (1, 0, 4))


class ScriptTest(Case):
    def test_scripts(self):
        self.says(True, is_script(ROW, JAM, 4))
        self.says(False, is_script(ROW, JAM, 3))
        self.says(True, is_script(many=42, value=tuple(JAM), web=ROW))
        self.says(False, is_script(ROW, JAM + [("on", 1, 0, 4)], 42))
        self.says(False, is_script(ROW, [("on", 1, 0, 4)], 42))
        self.says(True, is_script(ROW, [IN, IN, ("on", 1, 0, 4), IN], 3))
        self.says(False, is_script(ROW, [IN, IN, IN], 42))
        # Not only the carts at the end are counted.
        self.says(False, is_script(ROW, [IN] + OUT[:1] + [IN] + OUT[1:], 1))
        self.says(True, is_script(ROW, ([IN] + OUT) * 2, 1))

    def test_many_at_its_bounds(self):
        self.says(True, is_script(ROW, [], 0))
        self.says(True, is_script(ROW, (), 42))
        self.says(False, is_script(ROW, [IN], 0))
        self.says(True, is_script(ROW, [IN], 1))
        self.says(True, is_script(WIDE, ([IN] * 6), 6))
        self.says(False, is_script(WIDE, ([IN] * 6), 5))
        self.fails_for(InvalidMany, ODD + ODD_LISTS + [43, 10 ** 6], lambda odd: is_script(ROW, None, odd))
        self.fails(InvalidMany, {"value": 43}, is_script, many=43, value=[], web=ROW)

    def test_42_carts(self):
        row = Country([(k, k + 1) for k in range(8)])
        web = Web(row, [[(6, [])]] * 7)
        steps = []
        for yard in range(7, 0, -1):
            for _ in range(6):
                steps += [("in", 0, 8)] + [("on", at, 0, 8) for at in range(1, yard)]
        self.says(True, is_script(web, steps, 42))
        self.says(False, is_script(web, steps, 41))
        self.assertEqual(len(after(web, [], steps)), 42)

    def test_any_value(self):
        for odd in ODD + ODD_LISTS + NO_STEPS[:-4] + [IN, {IN: 1}, ROW]:
            with self.subTest(odd=repr(odd)):
                self.says(odd == (), is_script(ROW, odd, 42))
                self.says(odd is IN, is_script(ROW, [odd], 42))

    def test_wrong_web(self):
        self.fails_for(InvalidWeb, ODD + ODD_LISTS + [LINE], lambda odd: is_script(odd, [], 43))


class FactsTest(Case):
    def test_against_whole_stands(self):
        chance = random.Random(15)
        seen_refused = seen_stuck = 0
        for _ in range(30):
            web = random_web(chance, 2)
            steps, stands = random_walk(chance, web, 60)
            self.assertEqual(after(web, [], steps), stands[-1])
            most = max(len(stand) for stand in stands)
            self.says(True, is_script(web, steps, most))
            self.says(most == 0, is_script(web, steps, max(0, most - 1)))
            full = max(stands, key=len)
            for step in all_steps(web.country):
                self.check_step(web, full, step)
            told = [cart for cart in sorted(set(full)) if slow_outcome(web, full, ("on",) + cart) is None]
            self.assertEqual(refused(web, full), told)
            self.says(full != [] and told == sorted(set(full)), is_stuck(web, full))
            seen_refused += len(told)
            seen_stuck += is_stuck(web, full)
            for cart in told:
                self.check_why(web, full, cart)
        self.assertTrue(seen_refused > 20)
        self.assertTrue(seen_stuck > 0)

    def check_step(self, web, stand, step):
        wanted = slow_outcome(web, stand, step)
        self.says(wanted is not None, can_step(web, stand, step))
        if wanted is not None:
            self.assertEqual(stepped(web, stand[::-1], step), wanted)
        elif step[0] == "on" and step[1:] not in stand:
            self.fails(NoCart, {"value": step[1:]}, stepped, web, stand, step)
        else:
            self.fails(Refused, {}, stepped, web, stand, step)

    def check_why(self, web, stand, cart):
        walk = slow_way(web.country, cart[1], cart[2])
        wanted = walk[walk.index(cart[0]) + 1]
        load = slow_load(web.country, stand + [(wanted,) + cart[1:]], wanted)
        told = why_refused(web, stand, cart)
        self.assertIs(type(told), list)
        self.assertEqual(len(told), len(web.book(wanted)))
        for (places, bounds), why in zip(web.book(wanted), told):
            too_many = [sum(n for o, t, n in load if origin in (None, o) and target in (None, t)) > most
                        for origin, target, most in bounds]
            self.assertEqual(why, None if sum(n for _, _, n in load) > places else too_many.index(True))


if __name__ == "__main__":
    unittest.main()
