import random
import unittest

from helpers import FULL, LINE, ODD, ODD_LISTS, SHORT, STAR, Case, random_country, slow_way
from lanekeepers.countries import Country
from lanekeepers.errors import InvalidCountry, InvalidEnd, InvalidGoal, InvalidPlace, InvalidPlaces, InvalidStart
from lanekeepers.errors import InvalidTarget, InvalidYard
from lanekeepers.ways import all_ways, behind, between, distance, next_place, renamed, way

NO_PLACE = ODD + ODD_LISTS + [LINE, [1], (1,)]
NO_COUNTRY = ODD + ODD_LISTS + [[(0, 1), (1, 2)], [], ()]


class WaysTest(Case):
    def test_way(self):
        self.assertEqual(way(STAR, 4, 6), [4, 1, 0, 3, 6])
        self.assertEqual(way(STAR, 6, 4), [6, 3, 0, 1, 4])
        self.assertEqual(way(STAR, 0, 5), [0, 2, 5])
        self.assertEqual(way(LINE, 2, 2), [2])
        self.assertEqual(way(LINE, 0, 0), [0])
        self.assertEqual(way(LINE, 0, 4), [0, 1, 2, 3, 4])
        self.assertEqual(way(FULL, 0, 22), [0, 1, 2, 3, 4, 5, 6, 7, 22])
        self.assertEqual(way(country=STAR, start=5, end=1), [5, 2, 0, 1])

    def test_distance(self):
        self.assertEqual([distance(STAR, 4, 6), distance(LINE, 3, 3), distance(LINE, 1, 2), distance(FULL, 22, 0)],
                         [4, 0, 1, 8])
        self.assertEqual(distance(country=STAR, place=0, goal=4), 2)

    def test_next_place(self):
        self.assertEqual([next_place(STAR, 0, 5), next_place(LINE, 0, 4), next_place(LINE, 4, 0), next_place(LINE, 1, 0)],
                         [2, 1, 3, 0])
        self.assertEqual(next_place(country=STAR, place=4, goal=6), 1)

    def test_between(self):
        self.assertEqual([between(LINE, 1, 3), between(LINE, 3, 1), between(LINE, 3, 3), between(LINE, 2, 3)],
                         [[2], [2], [], []])
        self.assertEqual([between(FULL, 2, 6), between(FULL, 6, 2), between(STAR, 1, 2)], [[3, 4, 5], [5, 4, 3], [0]])
        self.assertEqual(between(country=STAR, yard=3, goal=1), [0])

    def test_behind(self):
        self.assertEqual([behind(STAR, 0, 1), behind(STAR, 1, 0), behind(STAR, 1, 4)], [[0, 2, 3], [1], [0, 1, 2, 3]])
        self.assertEqual([behind(LINE, 2, 1), behind(LINE, 2, 3), behind(SHORT, 1, 0)], [[2, 3], [1, 2], [1]])
        self.assertEqual(behind(country=FULL, yard=3, target=4), [1, 2, 3])

    def test_all_ways(self):
        self.assertEqual(all_ways(LINE), [(0, 4), (4, 0)])
        self.assertEqual(all_ways(country=STAR), [(4, 5), (4, 6), (5, 4), (5, 6), (6, 4), (6, 5)])
        self.assertEqual(len(all_ways(FULL)), 240)

    def test_renamed(self):
        self.says(True, renamed(LINE, [4, 3, 2, 1, 0]) == LINE)
        self.assertEqual(renamed(LINE, [1, 0, 2, 3, 4]).lanes, [(0, 1), (0, 2), (2, 3), (3, 4)])
        self.assertEqual(renamed(country=LINE, places=(3, 0, 4, 1, 2)).lanes, [(0, 3), (0, 4), (1, 2), (1, 4)])
        self.assertIs(type(renamed(LINE, (0, 1, 2, 3, 4))), Country)
        self.assertEqual(LINE.lanes, [(0, 1), (1, 2), (2, 3), (3, 4)])

    def test_lists_are_new(self):
        for call in [lambda: way(LINE, 0, 4), lambda: between(FULL, 1, 7), lambda: behind(LINE, 2, 1),
                     lambda: all_ways(STAR)]:
            first = call()
            self.assertIs(type(first), list)
            wanted = list(first)
            first.append(9)
            self.assertEqual(call(), wanted)
        numbers = [4, 3, 2, 1, 0]
        renamed(LINE, numbers)
        self.assertEqual(numbers, [4, 3, 2, 1, 0])


class WrongInputsTest(Case):
    def test_country(self):
        for call in [lambda odd: way(odd, None, None), lambda odd: distance(odd, None, None), all_ways,
                     lambda odd: next_place(odd, None, None), lambda odd: between(odd, None, None),
                     lambda odd: behind(odd, None, None), lambda odd: renamed(odd, None),
                     lambda odd: way(end=0, start=1, country=odd)]:
            self.fails_for(InvalidCountry, NO_COUNTRY, call)

    def test_start_and_end(self):
        self.fails_for(InvalidStart, NO_PLACE + [5], lambda odd: way(LINE, odd, None))
        self.fails_for(InvalidEnd, NO_PLACE + [5], lambda odd: way(LINE, 0, odd))
        self.fails_for(InvalidEnd, [7], lambda odd: way(end=odd, country=STAR, start=0))

    def test_place(self):
        for call in [distance, next_place]:
            self.fails_for(InvalidPlace, NO_PLACE + [5], lambda odd: call(LINE, odd, None))
            self.fails_for(InvalidGoal, NO_PLACE + [5], lambda odd: call(LINE, 0, odd))
            self.fails(InvalidGoal, {"value": True}, call, goal=True, place=0, country=LINE)

    def test_next_place_to_itself(self):
        for place in range(5):
            self.fails(InvalidGoal, {"value": place}, next_place, LINE, place, place)

    def test_yard(self):
        for call in [between, behind]:
            self.fails_for(InvalidYard, NO_PLACE + [0, 4, 5], lambda odd: call(LINE, odd, None))
        self.fails_for(InvalidGoal, NO_PLACE + [0, 4, 5], lambda odd: between(LINE, 2, odd))
        self.fails_for(InvalidTarget, NO_PLACE + [0, 2, 4, 5], lambda odd: behind(LINE, 2, odd))
        self.fails(InvalidTarget, {"value": True}, behind, target=True, yard=2, country=LINE)

    def test_places(self):
        lists = [[0, 1, 2, 3], [0, 1, 2, 3, 4, 5], [0, 1, 2, 3, 3], [1, 2, 3, 4, 5], [0, True, 2, 3, 4], [False, 1, 2, 3, 4],
                 [0, 1, 2, 3, None], [0, 1, 2, 3, [4]], ["0", 1, 2, 3, 4], [0, 1, 2, 3, -1], [0, 1, 2, 3, 10 ** 29], [], (),
                 {0: 0, 1: 1, 2: 2, 3: 3, 4: 4}]
        self.fails_for(InvalidPlaces, ODD + ODD_LISTS + lists, lambda odd: renamed(LINE, odd))
        self.fails(InvalidPlaces, {"value": (0, 0)}, renamed, places=(0, 0), country=LINE)


class FactsTest(Case):
    def test_ways_are_the_only_walks(self):
        chance = random.Random(3)
        for _ in range(25):
            country = random_country(chance)
            places = country.yards + country.gates
            for start in places:
                for end in places:
                    walk = slow_way(country, start, end)
                    self.assertEqual(way(country, start, end), walk)
                    self.assertEqual(distance(country, start, end), len(walk) - 1)
                    if start != end:
                        self.assertEqual(next_place(country, start, end), walk[1])
                    if start in country.yards and end in country.yards:
                        self.assertEqual(between(country, start, end), walk[1:-1])
            self.assertEqual(all_ways(country), sorted((a, b) for a in country.gates for b in country.gates if a != b))

    def test_what_is_behind(self):
        chance = random.Random(4)
        for _ in range(40):
            country = random_country(chance)
            for yard in country.yards:
                for target in country.neighbours(yard):
                    told = behind(country, yard, target)
                    self.assertEqual(told, [y for y in country.yards if target not in slow_way(country, yard, y)])
                    if target in country.gates:
                        self.assertEqual(told, country.yards)
                    else:
                        self.assertEqual(sorted(told + behind(country, target, yard)), country.yards)

    def test_renamed_leads_ways_to_ways(self):
        chance = random.Random(5)
        for _ in range(40):
            country = random_country(chance)
            numbers = list(range(len(country.lanes) + 1))
            chance.shuffle(numbers)
            other = renamed(country, numbers)
            self.assertEqual(other.lanes, sorted(tuple(sorted((numbers[a], numbers[b]))) for a, b in country.lanes))
            self.assertEqual(other.yards, sorted(numbers[yard] for yard in country.yards))
            self.assertEqual(other.gates, sorted(numbers[gate] for gate in country.gates))
            for start, end in all_ways(country):
                self.assertEqual(way(other, numbers[start], numbers[end]), [numbers[at] for at in way(country, start, end)])


if __name__ == "__main__":
    unittest.main()
