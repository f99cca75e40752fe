import itertools
import random
import unittest

from helpers import FULL, LINE, ODD, ODD_LISTS, SHORT, STAR, Case, bounded_book
from lanekeepers.countries import Country
from lanekeepers.errors import InvalidEast, InvalidWeb, InvalidWest, NotALine
from lanekeepers.few import fewest
from lanekeepers.plans import shows_stuck
from lanekeepers.stairs import can_stick, is_line, line_script, stairs
from lanekeepers.steps import after
from lanekeepers.webs import Web
from wrong import NO_WEB, PLAIN_ROW

PLAIN = [(2, [])]
PAIR = Country([(0, 1), (1, 2), (2, 3)])
FIVE = Country([(0, 1), (1, 2), (2, 3), (3, 4), (4, 5), (5, 6)])
SEVEN = Country([(k, k + 1) for k in range(8)])
NARROW = Web(LINE, [PLAIN, [(3, [(None, 1, 2), (None, 3, 2)])], PLAIN])
TIGHT = Web(LINE, [PLAIN, [(1, [])], PLAIN])
KEPT = Web(LINE, [[(2, [(None, 2, 1)])], [(2, [(None, 3, 1)])], PLAIN])
# The yards from the lesser gate on: 5, 0, 3, 1.
CROSSED = Country([(2, 5), (5, 0), (0, 3), (3, 1), (1, 4)])
NO_COUNT = [odd for odd in ODD if odd not in (99, 10 ** 29)] + ODD_LISTS
NO_LINES = {
    "a star": Web(STAR, [PLAIN] * 4),
    "a bound by origin": Web(LINE, [[(2, [(0, None, 1)])], PLAIN, PLAIN]),
    "two alternatives": Web(LINE, [PLAIN, [(2, []), (1, [])], PLAIN]),
    "a third gate at one yard": Web(Country([(0, 1), (1, 2), (2, 3), (2, 4)]), [PLAIN, PLAIN]),
    "a bound for what goes out": Web(SHORT, [[(2, [(None, 2, 1)])]]),
    "one yard of three gates": Web(Country([(0, 1), (0, 2), (0, 3)]), [PLAIN]),
}


def greatest_counts(web, steps):
    """How many eastward and westward carts stand at most, behind any of the steps."""
    low, high = web.country.gates
    stand, many = [], [(0, 0)]
    for step in steps:
        stand = after(web, stand, [step])
        many.append((len([cart for cart in stand if cart[1] == low]), len([cart for cart in stand if cart[1] == high])))
    return max(east for east, _ in many), max(west for _, west in many)


class Slow:
    """A line as a row of (places, bound onward, bound back), its stands as tuples of pairs of carts each way: what
    sticks is found by going through all stands that come."""

    def __init__(self, row):
        self.row = row

    def lets(self, at, pair):
        places, onward, back = self.row[at]
        return sum(pair) <= places and pair[0] <= onward and pair[1] <= back

    def moved(self, stand, at, sense):
        """What comes of a cart of this sense that goes on from the yard at this position (from -1 or the end: comes
        in); None if it can't."""
        goal = at + (1 if sense == 0 else -1)
        told = [list(pair) for pair in stand]
        if 0 <= at < len(stand):
            if stand[at][sense] == 0:
                return None
            told[at][sense] -= 1
        if 0 <= goal < len(stand):
            told[goal][sense] += 1
            if not self.lets(goal, told[goal]):
                return None
        return tuple(tuple(pair) for pair in told)

    def sticks(self, east, west):
        many = len(self.row)
        seen, waiting = {((0, 0),) * many}, [((0, 0),) * many]
        while waiting:
            stand = waiting.pop()
            on = [self.moved(stand, at, sense) for at in range(many) for sense in (0, 1)]
            if any(map(sum, stand)) and not any(on):
                return True
            for told in on + [self.moved(stand, -1, 0), self.moved(stand, many, 1)]:
                if told and told not in seen and sum(a for a, _ in told) <= east and sum(b for _, b in told) <= west:
                    seen.add(told)
                    waiting.append(told)
        return False


def row_told(web):
    """The line as a Slow takes it."""
    places, row = [web.country.gates[0]], []
    while places[-1] != web.country.gates[1]:
        places += [near for near in web.country.neighbours(places[-1]) if near not in places]
    for before, yard, ahead in zip(places, places[1:], places[2:]):
        (most, bounds), = web.book(yard)
        told = {target: bound for _, target, bound in bounds}
        row.append((most, told.get(ahead, most), told.get(before, most)))
    return row


def random_line(chance, yards, most):
    """A line whose places have any numbers."""
    numbers = list(range(yards + 2))
    chance.shuffle(numbers)
    country = Country(list(zip(numbers, numbers[1:])))
    return Web(country, [bounded_book(chance, country, yard, most) for yard in country.yards])


class LineTest(Case):
    def test_lines(self):
        for web in [PLAIN_ROW, NARROW, TIGHT, KEPT, Web(SHORT, [PLAIN]), Web(PAIR, [PLAIN] * 2), Web(SEVEN, [[(6, [])]] * 7),
                    Web(CROSSED, [PLAIN] * 4)]:
            self.says(True, is_line(web))
            self.says(True, is_line(web=web))

    def test_no_lines(self):
        for word, web in NO_LINES.items():
            with self.subTest(word):
                self.says(False, is_line(web))
                self.says(False, is_line(web=web))
        self.says(False, is_line(Web(FULL, [PLAIN] * 7)))


class StairsTest(Case):
    def told(self, wanted, web):
        self.assertEqual(stairs(web), wanted)
        self.assertEqual(stairs(web=web), wanted)
        self.assertIs(type(stairs(web)), list)
        for pair in stairs(web):
            self.assertIs(type(pair), tuple)

    def test_stairs(self):
        self.told([(2, 2)], PLAIN_ROW)
        self.told([(1, 2), (2, 1)], TIGHT)
        self.told([(3, 4), (4, 3)], NARROW)

    def test_none(self):
        self.told([], KEPT)
        self.told([], Web(SHORT, [[(6, [])]]))
        self.told([], Web(LINE, [[(2, [(None, 2, 1)])], PLAIN, [(2, [(None, 2, 1)])]]))

    def test_ends_count_by_one_sense_alone(self):
        # The first yard is bounded towards the second one, the last one is not.
        self.told([(2, 2)], Web(LINE, [[(2, [(None, 2, 1)])], PLAIN, PLAIN]))
        self.told([], Web(PAIR, [[(2, [(None, 2, 1)])], PLAIN]))
        self.told([], Web(PAIR, [PLAIN, [(2, [(None, 1, 1)])]]))
        self.told([(2, 5)], Web(PAIR, [PLAIN, [(5, [])]]))

    def test_yards_between_with_more_places_than_both_bounds(self):
        self.told([(2 + 2, 2 + 1)], Web(LINE, [PLAIN, [(6, [(None, 1, 1), (None, 3, 2)])], PLAIN]))

    def test_yards_between_that_take_carts_of_either_sense(self):
        self.told([(2 + least, 2 + 5 - least) for least in [1, 2, 3, 4]],
                  Web(LINE, [PLAIN, [(5, [(None, 1, 4), (None, 3, 4)])], PLAIN]))

    def test_by_the_sequence_from_the_lesser_gate_on(self):
        # From the gate 1 on: the yard 2 with one place, 0 with two.
        self.told([(1, 2)], Web(Country([(1, 2), (2, 0), (0, 3)]), [PLAIN, [(1, [])]]))
        self.told([(1, 2)], Web(CROSSED, [PLAIN, [(4, [])], [(3, [])], [(1, [])]]))
        # The yards between are bounded both ways.
        inner = [[(2, [(None, 5, 1), (None, 3, 1)])], [(4, [])], [(3, [(None, 0, 1), (None, 1, 1)])], [(1, [])]]
        self.told([(1 + 2, 4 + 2)], Web(CROSSED, inner))

    def test_lists_are_new(self):
        told = stairs(PLAIN_ROW)
        told.append(1)
        self.assertEqual(stairs(PLAIN_ROW), [(2, 2)])


class StickTest(Case):
    def test_can_stick(self):
        for web, good in [(PLAIN_ROW, [(2, 2)]), (TIGHT, [(1, 2), (2, 1)]), (NARROW, [(3, 4), (4, 3)]), (KEPT, [])]:
            for east, west in itertools.product(range(7), repeat=2):
                wanted = any(east >= one and west >= other for one, other in good)
                self.says(wanted, can_stick(web, east, west))
                self.says(wanted, can_stick(west=west, east=east, web=web))

    def test_0_and_far_above(self):
        far = 10 ** 29
        for east, west, wanted in [(0, 0, False), (0, far, False), (far, 0, False), (far, 1, False), (1, far, False),
                                   (2, far, True), (far, 2, True), (far, far, True), (999999, 999999, True)]:
            self.says(wanted, can_stick(PLAIN_ROW, east, west))
            self.says(wanted, line_script(PLAIN_ROW, east, west) is not None)
            self.says(False, can_stick(KEPT, east, west))
            self.says(False, can_stick(Web(SHORT, [PLAIN]), east, west))
            self.assertIs(line_script(KEPT, east, west), None)
            self.assertIs(line_script(Web(SHORT, [PLAIN]), east, west), None)


class ScriptTest(Case):
    def script_of(self, web, east, west):
        told = line_script(web, east, west)
        self.assertIs(type(told), list)
        self.assertTrue(len(told) <= 400)
        self.says(True, shows_stuck(web, told))
        one, other = greatest_counts(web, told)
        self.assertTrue(one <= east and other <= west, (one, other, east, west))
        self.assertEqual(line_script(west=west, east=east, web=web), told)
        return one, other

    def test_with_just_so_many(self):
        for web in [PLAIN_ROW, TIGHT, NARROW, Web(SEVEN, [[(6, [])]] * 7), Web(PAIR, [PLAIN, [(5, [])]])]:
            for east, west in stairs(web):
                self.assertEqual(self.script_of(web, east, west), (east, west))
                self.assertIs(line_script(web, east - 1, west), None)
                self.assertIs(line_script(web, east, west - 1), None)

    def test_with_more(self):
        for web in [PLAIN_ROW, TIGHT, NARROW]:
            for east, west in [(4, 4), (4, 9), (9, 4), (99, 99)]:
                self.script_of(web, east, west)

    def test_many_yards_between(self):
        inner = [[(6, [(None, k - 1, 5), (None, k + 1, 5)])] for k in range(2, 7)]
        web = Web(SEVEN, [[(6, [])]] + inner + [[(6, [])]])
        self.assertEqual(stairs(web), [(6 + more, 36 - more) for more in range(5, 26)])
        for east, west in stairs(web):
            self.assertEqual(self.script_of(web, east, west), (east, west))
        self.assertEqual(fewest(web), 42)

    def test_a_nearer_pair_that_needs_less_of_one_sense(self):
        # Between the ends a yard that can be full of westward carts, or of eastward ones, by itself.
        web = Web(FIVE, [PLAIN, [(4, [(None, 3, 2)])], [(5, [(None, 2, 3)])], [(3, [(None, 3, 1), (None, 5, 1)])], [(1, [])]])
        for east, west in itertools.product(range(16), repeat=2):
            if can_stick(web, east, west):
                self.script_of(web, east, west)

    def test_none(self):
        self.assertIs(line_script(PLAIN_ROW, 1, 9), None)
        self.assertIs(line_script(PLAIN_ROW, 9, 1), None)
        self.assertIs(line_script(NARROW, 3, 3), None)

    def test_lists_are_new(self):
        told, wanted = line_script(PLAIN_ROW, 2, 2), line_script(PLAIN_ROW, 2, 2)
        told.append(1)
        self.assertEqual(line_script(PLAIN_ROW, 2, 2), wanted)


class WrongInputsTest(Case):
    def test_in_their_sequence(self):
        self.refuses(is_line, ("web", PLAIN_ROW, InvalidWeb, NO_WEB))
        self.refuses(stairs, ("web", PLAIN_ROW, InvalidWeb, NO_WEB))
        # Wrong numbers come ahead of NotALine.
        for good in [PLAIN_ROW] + list(NO_LINES.values()):
            web = ("web", good, InvalidWeb, NO_WEB)
            east, west = ("east", 2, InvalidEast, NO_COUNT), ("west", 2, InvalidWest, NO_COUNT)
            for call in [can_stick, line_script]:
                self.refuses(call, web, east, west)

    def test_not_a_line(self):
        for word, web in NO_LINES.items():
            with self.subTest(word):
                self.fails(NotALine, {}, stairs, web)
                self.fails(NotALine, {}, stairs, web=web)
                for call in [can_stick, line_script]:
                    self.fails(NotALine, {}, call, web, 0, 9)
                    self.fails(NotALine, {}, call, west=9, east=0, web=web)


class FactsTest(Case):
    def test_by_all_stands_that_come(self):
        chance = random.Random(41)
        stuck = []
        for yards, most, times in [(1, 6, 3), (2, 4, 12), (3, 3, 16), (4, 2, 8)]:
            for _ in range(times):
                web = random_line(chance, yards, most)
                slow = Slow(row_told(web))
                reached = range(yards * most + 2)
                good = set()
                for east, west in itertools.product(reached, repeat=2):
                    # With more carts it can stick, too: that need not be gone through again.
                    if (east - 1, west) in good or (east, west - 1) in good or slow.sticks(east, west):
                        good.add((east, west))
                    self.says((east, west) in good, can_stick(web, east, west))
                    self.says((east, west) in good, line_script(web, east, west) is not None)
                wanted = sorted(pair for pair in good if not {(pair[0] - 1, pair[1]), (pair[0], pair[1] - 1)} & good)
                self.assertEqual(stairs(web), wanted)
                stuck.append(len(wanted))
        self.assertTrue(stuck.count(0) > 3 and stuck.count(1) > 3 and max(stuck) > 1, stuck)

    def test_scripts_of_greater_lines(self):
        chance = random.Random(42)
        found = 0
        for _ in range(60):
            web = random_line(chance, chance.randint(4, 7), 6)
            for east, west in stairs(web):
                script = line_script(web, east, west)
                self.says(True, shows_stuck(web, script))
                self.assertEqual(greatest_counts(web, script), (east, west))
                found += 1
        self.assertTrue(found > 60, found)

    def test_least_sum(self):
        chance = random.Random(43)
        for _ in range(60):
            web = random_line(chance, chance.randint(2, 7), 6)
            self.assertEqual(min([east + west for east, west in stairs(web)], default=None), fewest(web))


if __name__ == "__main__":
    unittest.main()
