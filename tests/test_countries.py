import random
import unittest

from helpers import FULL, LINE, ODD, ODD_LISTS, SHORT, STAR, Case, random_lanes
from lanekeepers.countries import Country
from lanekeepers.errors import InvalidLanes, InvalidPlace
from lanekeepers.ways import renamed


class LanesTest(Case):
    def test_parts_are_told_sorted(self):
        self.assertEqual(LINE.lanes, [(0, 1), (1, 2), (2, 3), (3, 4)])
        self.assertEqual(LINE.yards, [1, 2, 3])
        self.assertEqual(LINE.gates, [0, 4])
        self.assertEqual(STAR.lanes, [(0, 1), (0, 2), (0, 3), (1, 4), (2, 5), (3, 6)])
        self.assertEqual(STAR.yards, [0, 1, 2, 3])
        self.assertEqual(STAR.gates, [4, 5, 6])
        mixed = Country(([3, 2], (5, 2), [2, 0], (0, 4), (0, 1)))
        self.assertEqual(mixed.lanes, [(0, 1), (0, 2), (0, 4), (2, 3), (2, 5)])
        self.assertEqual(mixed.yards, [0, 2])
        self.assertEqual(mixed.gates, [1, 3, 4, 5])
        self.assertEqual(mixed.neighbours(0), [1, 2, 4])
        self.assertEqual(mixed.neighbours(2), [0, 3, 5])
        self.assertEqual(mixed.neighbours(5), [2])

    def test_kinds_of_what_is_told(self):
        self.assertTrue(all(type(lane) is tuple for lane in Country([[1, 0], [1, 2]]).lanes))
        for value in [STAR.lanes, STAR.yards, STAR.gates, STAR.neighbours(0)]:
            self.assertIs(type(value), list)

    def test_least_and_greatest_countries(self):
        self.assertEqual((SHORT.yards, SHORT.gates), ([1], [0, 2]))
        self.assertEqual(Country([(0, 1), (0, 2), (0, 3), (0, 4)]).yards, [0])
        self.assertEqual(FULL.yards, [1, 2, 3, 4, 5, 6, 7])
        self.assertEqual(len(FULL.gates), 16)
        self.assertEqual(Country([(k, k + 1) for k in range(8)]).yards, [1, 2, 3, 4, 5, 6, 7])

    def test_too_few_or_too_many(self):
        eight_yards = [(k, k + 1) for k in range(9)]
        five_lanes = [(0, 1), (0, 2), (0, 3), (0, 4), (0, 5)]
        self.fails_for(InvalidLanes, [[], (), [(0, 1)], [(0, 0)], eight_yards, five_lanes, five_lanes + [(5, 6)]], Country)

    def test_no_tree(self):
        self.fails_for(InvalidLanes, [
            [(0, 1), (1, 2), (2, 0)],
            [(0, 1), (1, 2), (2, 0), (3, 4)],
            [(0, 1), (1, 2), (3, 4), (4, 5)],
            [(0, 1), (2, 3), (3, 4)],
            [(0, 1), (1, 2), (2, 2)],
            [(0, 1), (1, 2), (0, 0)],
            [(0, 1), (1, 2), (1, 1)],
            [(0, 1), (1, 2), (2, 4)],
            [(1, 2), (2, 3)],
            [(0, 1), (1, 3)],
        ], Country)

    def test_a_lane_told_twice(self):
        self.fails_for(InvalidLanes, [
            [(0, 1), (1, 2), (1, 2)],
            [(0, 1), (1, 2), (2, 1)],
            [(0, 1), (1, 2), [1, 0]],
            [(0, 1), (1, 0)],
        ], Country)

    def test_no_lanes_at_all(self):
        self.fails_for(InvalidLanes, ODD + ODD_LISTS + [LINE], Country)
        for odd in ODD + ODD_LISTS + [LINE, [0], (0,), [0, 1, 2], (0, None), (0, "1"), [0, -1], (0, 99), (0, 10 ** 29),
                                      (0, True), [True, 0], (False, 1), ((0,), 1), [[], []], {0: 1, 1: 0}, "01", b"01"]:
            with self.subTest(odd=repr(odd)):
                self.fails(InvalidLanes, {"value": [(1, 2), odd]}, Country, [(1, 2), odd])
                self.fails(InvalidLanes, {"value": (odd, [1, 2])}, Country, lanes=(odd, [1, 2]))

    def test_the_very_value_is_told(self):
        lanes = [[0, 1], (True, 2)]
        with self.assertRaises(InvalidLanes) as caught:
            Country(lanes)
        self.assertIs(type(caught.exception.value), list)
        self.assertIs(caught.exception.value[1][0], True)
        self.assertEqual(lanes, [[0, 1], (True, 2)])

    def test_true_and_false_are_no_places(self):
        self.fails_for(InvalidLanes, [[(0, True), (1, 2)], [(False, 1), (1, 2)], [(0, 1), [True, 2]]], Country)

    def test_neighbours_of_no_place(self):
        self.fails_for(InvalidPlace, ODD + ODD_LISTS + [5, LINE, (1,), [1]], LINE.neighbours)
        self.fails(InvalidPlace, {"value": 7}, STAR.neighbours, place=7)
        self.assertEqual(STAR.neighbours(place=6), [3])
        self.assertEqual(LINE.neighbours(4), [3])

    def test_argument_by_name(self):
        self.assertEqual(Country(lanes=[(0, 1), (1, 2)]).gates, [0, 2])


class SameTest(Case):
    def test_equal_by_lanes_alone(self):
        self.says(True, LINE == Country([[4, 3], [3, 2], [2, 1], [1, 0]]))
        self.says(True, Country(((1, 2), (1, 0))) == SHORT)
        self.says(False, LINE == SHORT)
        self.says(False, LINE == Country([(0, 2), (2, 1), (1, 3), (3, 4)]))
        self.says(True, LINE != STAR)
        self.says(False, SHORT != Country([(0, 1), (1, 2)]))

    def test_not_equal_to_other_kinds(self):
        for odd in ODD + ODD_LISTS + [SHORT.lanes, tuple(SHORT.lanes), [0, 1, 2]]:
            self.says(False, SHORT == odd)
            self.says(True, SHORT != odd)

    def test_nothing_is_shared(self):
        lanes = [[0, 1], [1, 2], [2, 3], [3, 4]]
        country = Country(lanes)
        self.assertEqual(lanes, [[0, 1], [1, 2], [2, 3], [3, 4]])
        lanes[0][0] = 9
        lanes.append((4, 5))
        self.says(True, country == LINE)
        for told in [country.lanes, country.yards, country.gates, country.neighbours(2)]:
            told.append(77)
            told[0] = 66
        self.says(True, country == LINE)
        self.assertEqual((country.lanes, country.yards, country.gates), (LINE.lanes, [1, 2, 3], [0, 4]))
        self.assertEqual(country.neighbours(2), [1, 3])


class ManyCountriesTest(Case):
    def test_what_is_told_hangs_together(self):
        chance = random.Random(1)
        for _ in range(150):
            lanes = random_lanes(chance)
            country = Country(lanes)
            self.assertEqual(country.lanes, sorted(tuple(sorted(lane)) for lane in lanes))
            around = {place: sorted(b if a == place else a for a, b in lanes if place in (a, b))
                      for place in range(len(lanes) + 1)}
            self.assertEqual({place: country.neighbours(place) for place in around}, around)
            self.assertEqual(country.yards, [place for place in around if len(around[place]) > 1])
            self.assertEqual(country.gates, [place for place in around if len(around[place]) == 1])
            self.says(True, country == Country(country.lanes))
            self.says(True, country == renamed(country, list(around)))

    def test_one_lane_less_or_more_is_no_country(self):
        chance = random.Random(2)
        for _ in range(60):
            lanes = random_lanes(chance)
            gates = Country(lanes).gates
            self.fails(InvalidLanes, {}, Country, lanes + [(gates[0], gates[1])])
            self.fails(InvalidLanes, {}, Country, lanes + [lanes[0]])
            yards_lane = [lane for lane in lanes if lane[0] not in gates and lane[1] not in gates]
            if yards_lane:
                self.fails(InvalidLanes, {}, Country, [lane for lane in lanes if lane != yards_lane[0]])


if __name__ == "__main__":
    unittest.main()
