import random
import unittest

from helpers import LINE, ODD, ODD_LISTS, SHORT, STAR, Case, coming_stands, random_book, random_walk, random_web
from helpers import slow_outcome, small_webs, stands_of
from lanekeepers.comings import can_all_come, coming_script, emptied, is_lead, led_over, never_comes
from lanekeepers.countries import Country
from lanekeepers.errors import InvalidStand, InvalidWeb, NoPost
from lanekeepers.plans import stuck_stand
from lanekeepers.posts import can_be_stuck, posts
from lanekeepers.stands import is_stand, lanes_left
from lanekeepers.steps import after, is_script, is_stuck
from lanekeepers.turns import turned, turned_stand
from lanekeepers.webs import Web
from wrong import NO_CARTS, NO_STANDS, NO_STEP_LISTS, NO_WEB, PLAIN_ROW

PLAIN = [(2, [])]
# With a post, while the turned one has none; and the other way round.
KEPT = Web(LINE, [[(2, [(None, 2, 1)])], [(2, [(None, 3, 1)])], PLAIN])
BACK = turned(KEPT)
# Both have a post: at most one cart comes from yard 2 to yard 1, or goes from there to it; likewise at yard 2.
EASY = Web(LINE, [[(2, [(None, 2, 1), (2, None, 1)])], [(2, [(None, 3, 1), (3, None, 1)])], PLAIN])
SOME = [(3, 0, 4), (1, 0, 4), (2, 4, 0)]
JAMMED = [(1, 0, 4), (1, 0, 4), (2, 4, 0), (2, 4, 0)]


def slow_emptied(web, stand):
    steps, left = [], sorted(stand)
    while True:
        going = [("on",) + cart for cart in sorted(set(left)) if slow_outcome(web, left, ("on",) + cart) is not None]
        if not going:
            return steps, left
        steps.append(going[0])
        left = slow_outcome(web, left, going[0])


class EmptiedTest(Case):
    def told(self, wanted, web, stand):
        found = emptied(web, stand)
        self.assertEqual(found, wanted)
        self.assertEqual([type(found), type(found[0]), type(found[1])], [tuple, list, list])
        self.assertEqual(emptied(stand=tuple(stand)[::-1], web=web), wanted)

    def test_emptied(self):
        self.told(([("on", 1, 0, 4), ("on", 2, 0, 4), ("on", 3, 0, 4)], []), PLAIN_ROW, [(1, 0, 4)])
        self.told(([("on", 1, 0, 4), ("on", 2, 0, 4), ("on", 2, 4, 0), ("on", 1, 4, 0), ("on", 3, 0, 4)], []),
                  KEPT, [(2, 4, 0), (1, 0, 4)])
        self.told(([], []), PLAIN_ROW, [])

    def test_stuck(self):
        self.told(([], JAMMED), PLAIN_ROW, JAMMED[::-1])
        self.told(([("on", 3, 0, 4)], JAMMED), PLAIN_ROW, JAMMED + [(3, 0, 4)])
        self.told(([], [(2, 0, 4), (3, 4, 0)]), Web(LINE, [[(1, [])]] * 3), [(3, 4, 0), (2, 0, 4)])

    def test_the_first_step_each_time(self):
        # The cart in yard 1 waits for the one in yard 2, and is again the first one as soon as it can go on.
        one = Web(LINE, [[(1, [])]] * 3)
        self.told(([("on", 3, 0, 4), ("on", 2, 0, 4), ("on", 1, 0, 4), ("on", 3, 0, 4), ("on", 2, 0, 4), ("on", 3, 0, 4)], []),
                  one, [(1, 0, 4), (2, 0, 4), (3, 0, 4)])
        self.told(([("on", 2, 0, 4), ("on", 1, 0, 4), ("on", 3, 0, 4), ("on", 2, 0, 4), ("on", 3, 0, 4)], []),
                  one, [(1, 0, 4), (2, 0, 4)])
        # Of several carts in a yard the one with the least start, then with the least end.
        self.told(([("on", 0, 4, 5), ("on", 0, 4, 6), ("on", 0, 5, 4), ("on", 1, 5, 4), ("on", 2, 4, 5), ("on", 3, 4, 6)], []),
                  Web(STAR, [[(3, [])], PLAIN, PLAIN, PLAIN]), [(0, 5, 4), (0, 4, 6), (0, 4, 5)])

    def test_a_step_may_lead_into_a_stuck_stand(self):
        web = Web(LINE, [[(1, [])]] * 3)
        self.told(([("on", 1, 0, 4)], [(2, 0, 4), (3, 4, 0)]), web, [(1, 0, 4), (3, 4, 0)])

    def test_lists_are_new(self):
        stand = []
        emptied(PLAIN_ROW, stand)[1].append(1)
        self.assertEqual(stand, [])
        stand = list(JAMMED)
        emptied(PLAIN_ROW, stand)[1].append(1)
        self.assertEqual(stand, JAMMED)


class ComingTest(Case):
    def test_can_all_come(self):
        for web, wanted in [(KEPT, False), (BACK, True), (PLAIN_ROW, False), (EASY, True), (Web(SHORT, [PLAIN]), True)]:
            self.says(wanted, can_all_come(web))
            self.says(wanted, can_all_come(web=web))
            self.says(wanted, never_comes(web) is None)

    def test_never_comes(self):
        for web in [KEPT, PLAIN_ROW]:
            told = never_comes(web)
            self.assertIs(type(told), list)
            self.says(True, is_stand(web, told))
            self.says(True, is_stuck(turned(web), turned_stand(web, told)))
            self.assertNotIn(sorted(told), coming_stands(web))
            told.append(1)
            self.assertEqual(never_comes(web=web) + [1], told)
        self.assertEqual([never_comes(BACK), never_comes(EASY)], [None, None])

    def test_coming_script(self):
        for web, stand in [(BACK, SOME), (BACK, []), (BACK, [(3, 0, 4), (3, 0, 4), (2, 0, 4), (2, 4, 0)]), (EASY, SOME),
                           (Web(SHORT, [PLAIN]), [(1, 0, 2), (1, 2, 0)])]:
            told = coming_script(web, stand)
            self.assertIs(type(told), list)
            self.says(True, is_script(web, told, 42))
            self.assertEqual(after(web, [], told), sorted(stand))
            self.says(True, is_lead(web, [], stand, told))
            self.assertEqual(coming_script(stand=tuple(stand), web=web), told)

    def test_no_post_of_the_turned_web(self):
        self.assertEqual([posts(KEPT), posts(BACK)], [[3], []])
        for web in [KEPT, PLAIN_ROW]:
            for stand in [[], SOME, [(1, 0, 4)]]:
                self.fails(NoPost, {}, coming_script, web, stand)
        self.assertEqual(len(coming_script(BACK, [(1, 0, 4)])), 1)

    def test_led_over(self):
        for stand, other in [([], []), (SOME, []), ([], SOME), (SOME, SOME), (SOME, [(1, 4, 0), (1, 0, 4), (3, 4, 0)])]:
            told = led_over(EASY, stand, other)
            self.assertIs(type(told), list)
            self.assertEqual(after(EASY, stand, told), sorted(other))
            self.says(True, is_lead(EASY, stand, other, told))
            self.assertEqual(led_over(other=tuple(other), stand=tuple(stand), web=EASY), told)

    def test_led_over_wants_both_posts(self):
        for web in [KEPT, BACK, PLAIN_ROW]:
            for stand, other in [([], []), (SOME, []), ([], [(1, 0, 4)]), (SOME, SOME)]:
                self.fails(NoPost, {}, led_over, web, stand, other)

    def test_great_stands(self):
        row = Country([(k, k + 1) for k in range(8)])
        books = [[(6, [(k + 1, None, 5)])] for k in range(1, 7)] + [[(6, [])]]
        web = Web(row, books)
        stand = [(yard, 0, 8) for yard in range(1, 8) for _ in range(6)]
        self.assertEqual(len(coming_script(web, stand)), 168)
        self.assertEqual(after(web, [], coming_script(web, stand)), stand)
        steps, left = emptied(web, stand)
        self.assertEqual([len(steps), left, lanes_left(web, stand)], [168, [], 168])
        both = Web(row, [[(6, [(k + 1, None, 5), (None, k + 1, 5)])] for k in range(1, 7)] + [[(6, [])]])
        stand = [(yard, 0, 8) for yard in range(1, 8) for _ in range(5)]
        told = led_over(both, stand, turned_stand(both, stand))
        self.assertEqual(len(told), 280)
        self.says(True, is_lead(both, stand, turned_stand(both, stand), told))


class LeadTest(Case):
    def test_leads(self):
        steps = [("in", 0, 4), ("on", 1, 0, 4), ("on", 2, 0, 4)]
        self.says(True, is_lead(KEPT, [], [(3, 0, 4)], steps))
        self.says(True, is_lead(value=tuple(steps), other=((3, 0, 4),), stand=(), web=KEPT))
        self.says(False, is_lead(KEPT, [], [(2, 0, 4)], steps))
        self.says(False, is_lead(KEPT, [], [], steps))
        self.says(False, is_lead(KEPT, [], [(3, 0, 4)], steps[1:]))
        self.says(True, is_lead(KEPT, [(1, 0, 4)], [(3, 0, 4)], steps[1:]))
        self.says(False, is_lead(KEPT, [], [(3, 0, 4)], steps[::-1]))
        self.says(False, is_lead(KEPT, [(2, 4, 0), (2, 0, 4)], [(3, 0, 4)], steps))
        self.says(False, is_lead(PLAIN_ROW, JAMMED, JAMMED, [("on", 1, 0, 4)]))

    def test_in_whatever_sequence_the_stands_are(self):
        stand, other = [(3, 0, 4), (1, 4, 0)], [(3, 0, 4), (2, 0, 4), (1, 4, 0)]
        steps = [("in", 0, 4), ("on", 1, 0, 4)]
        self.says(True, is_lead(PLAIN_ROW, stand, other, steps))
        self.says(True, is_lead(PLAIN_ROW, stand[::-1], other[::-1], steps))

    def test_no_steps(self):
        for value in [[], ()]:
            self.says(True, is_lead(KEPT, [], [], value))
            self.says(True, is_lead(PLAIN_ROW, JAMMED[::-1], JAMMED, value))
            self.says(False, is_lead(PLAIN_ROW, [(1, 0, 4)] * 2, [(1, 0, 4)], value))
            self.says(False, is_lead(PLAIN_ROW, [], [(1, 0, 4)], value))

    def test_400_steps_and_more(self):
        over = [("in", 0, 4), ("on", 1, 0, 4), ("on", 2, 0, 4), ("on", 3, 0, 4)]
        self.says(True, is_lead(PLAIN_ROW, [], [], over * 100))
        self.says(False, is_lead(PLAIN_ROW, [], [(1, 0, 4)], over * 100 + over[:1]))
        self.says(True, is_lead(PLAIN_ROW, [], [(1, 0, 4)], over * 99 + over[:1]))

    def test_any_value(self):
        for odd in NO_STEP_LISTS + [PLAIN_ROW]:
            with self.subTest(odd=repr(odd)):
                self.says(False, is_lead(PLAIN_ROW, [], [], odd))


class WrongInputsTest(Case):
    def test_in_their_sequence(self):
        web = ("web", PLAIN_ROW, InvalidWeb, NO_WEB)
        stands = NO_STANDS + ODD + ODD_LISTS + [[cart] for cart in NO_CARTS]
        stand, other = ("stand", [], InvalidStand, stands), ("other", [], InvalidStand, stands)
        # PLAIN_ROW has no post: a wrong stand counts ahead of that.
        self.assertEqual(posts(PLAIN_ROW), [])
        for call in [emptied, coming_script]:
            self.refuses(call, web, stand)
        for call in [can_all_come, never_comes]:
            self.refuses(call, web)
        self.refuses(led_over, web, stand, other)
        self.refuses(is_lead, web, stand, other, ("value", []))

    def test_a_stand_of_the_turned_web_alone(self):
        stand = [(1, 0, 4), (1, 0, 4)]
        self.says(True, is_stand(BACK, stand))
        for call in [emptied, coming_script, lambda web, stand: led_over(web, stand, []),
                     lambda web, stand: led_over(web, [], stand), lambda web, stand: is_lead(web, stand, [], []),
                     lambda web, stand: is_lead(web, [], stand, [])]:
            self.fails(InvalidStand, {"value": stand}, call, KEPT, stand)


class FactsTest(Case):
    def test_emptied_against_whole_stands(self):
        chance = random.Random(28)
        left_over = 0
        for _ in range(30):
            web = random_web(chance)
            stand = max(random_walk(chance, web, 40)[1], key=len)
            wanted = slow_emptied(web, stand)
            self.assertEqual(emptied(web, stand), wanted)
            self.says(wanted[1] != [], is_stuck(web, wanted[1]))
            if posts(web):
                self.assertEqual(wanted[1], [])
            left_over += wanted[1] != []
        self.assertTrue(left_over > 0)

    def test_every_stand_of_small_webs(self):
        chance = random.Random(29)
        seen = {}
        for web in small_webs(chance, 40, lambda chance, country, yard: random_book(chance, country.neighbours(yard), 3), 120):
            every, coming = stands_of(web), coming_stands(web)
            self.assertEqual([stand for stand in coming if stand not in every], [])
            self.says(every == coming, can_all_come(web))
            self.says(every == coming, never_comes(web) is None)
            both = every == coming and not can_be_stuck(web)
            seen[(can_be_stuck(web), every == coming)] = True
            for stand in every:
                if posts(web):
                    self.assertEqual(emptied(web, stand)[1], [])
                if every == coming:
                    self.assertEqual(after(web, [], coming_script(web, stand)), stand)
                if both:
                    self.says(True, is_lead(web, stand, every[-1], led_over(web, stand, every[-1])))
            if every != coming:
                self.assertNotIn(never_comes(web), coming)
                self.assertNotIn(turned_stand(turned(web), stuck_stand(turned(web))), coming)
        self.assertEqual(len(seen), 4)


if __name__ == "__main__":
    unittest.main()
