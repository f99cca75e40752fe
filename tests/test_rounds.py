import itertools
import random
import unittest

from helpers import ODD, ODD_LISTS, Case
from lanekeepers.errors import InvalidBackward, InvalidForward, InvalidPlaces
from lanekeepers.rounds import is_round_stuck, round_fewest, round_stand

ONES, TWOS = [1] * 3, [2] * 3
NO_LISTS = ODD + ODD_LISTS[:6] + [[object()] * 3, [{}] * 3]
NO_BOUNDS = NO_LISTS + [[1, 1], [1] * 4, [1, 0, 1], [1, 1, 3], [3, 1, 1], [1, True, 1], [1, None, 1], [1, "1", 1], [1, -1, 1],
                        [1, [1], 1], [1, 10 ** 29, 1], {0: 1, 1: 1, 2: 1}, "111", b"111", [], ()]


def is_stuck_by_carts(places, forward, backward, stand):
    """By asking each single cart whether the yard it wants lets it in."""
    many = len(places)
    carts = [(at, sense) for at in range(many) for sense in (0, 1) for _ in range(stand[at][sense])]
    refused = []
    for at, sense in carts:
        goal = (at + 1) % many if sense == 0 else (at + many - 1) % many
        full = sum(stand[goal]) + 1 > places[goal]
        bound = stand[goal][sense] + 1 > (forward, backward)[sense][goal]
        refused.append(full or bound)
    return refused != [] and all(refused)


def stands_of_round(places, forward, backward):
    each = [[(a, b) for a in range(most + 1) for b in range(back + 1) if a + b <= room]
            for room, most, back in zip(places, forward, backward)]
    return itertools.product(*each)


def random_round(chance, many, most):
    places = [chance.randint(1, most) for _ in range(many)]
    forward, backward = [[chance.randint(1, room) for room in places] for _ in range(2)]
    return places, forward, backward


class FewestTest(Case):
    def told(self, wanted, *told):
        places, forward, backward = told
        self.assertEqual(round_fewest(*told), wanted)
        self.assertEqual(round_fewest(backward=tuple(backward), forward=tuple(forward), places=tuple(places)), wanted)
        stand = round_stand(*told)
        self.assertIs(type(stand), list)
        self.assertEqual(sum(map(sum, stand)), wanted)
        self.says(True, is_round_stuck(*told, stand))
        self.says(True, is_round_stuck(backward=backward, value=tuple(stand), places=places, forward=forward))
        self.assertEqual(round_stand(backward=tuple(backward), forward=tuple(forward), places=tuple(places)), stand)

    def test_sum_of_one_sense(self):
        self.told(3, TWOS, TWOS, ONES)
        self.told(3, TWOS, ONES, TWOS)
        self.told(6, [6] * 3, [2] * 3, [5] * 3)
        self.told(7, [6] * 7, [5] * 7, [1] * 7)

    def test_two_yards(self):
        self.told(2, ONES, ONES, ONES)
        self.told(7, [2, 3, 2, 3], [2, 2, 1, 2], [1, 2, 2, 2])
        self.told(2, [1, 1] + [6] * 5, [1, 1] + [6] * 5, [1, 1] + [6] * 5)

    def test_two_yards_forward_over_the_last_one(self):
        # The yard 2 is full of forward carts, the yard 0 of backward ones; behind 0 it would be dearer.
        self.told(4, [2, 6, 2], [1, 6, 2], [2, 6, 1])
        # With yards between, and both bounds together less than the places of one of them, more than those of another.
        self.told(2 + 3 + 3 + 2, [2, 6, 6, 2, 3, 5], [1, 5, 5, 2, 2, 2], [2, 5, 5, 1, 2, 1])

    def test_one_yard_alone_does_not_face_itself(self):
        self.told(12, [6, 6, 6], [6, 3, 3], [6, 4, 4])

    def test_as_many_yards_as_there_can_be(self):
        self.told(12, [6] * 7, [6] * 7, [6] * 7)
        self.told(7, [6] * 7, [1] * 7, [1] * 7)

    def test_lists_are_new(self):
        told = round_stand(ONES, ONES, ONES)
        told.append(1)
        self.assertEqual(round_stand(ONES, ONES, ONES), told[:-1])
        self.assertEqual(ONES, [1, 1, 1])


class StuckTest(Case):
    def test_stands(self):
        for stand, wanted in [([(1, 0), (0, 1), (0, 0)], True), ([(1, 0), (0, 0), (0, 1)], False),
                              ([(1, 0)] * 3, True), ([(0, 1)] * 3, True), ([(0, 0)] * 3, False),
                              ([(0, 0), (1, 0), (0, 1)], True), ([(0, 1), (0, 0), (1, 0)], True)]:
            self.says(wanted, is_round_stuck(ONES, ONES, ONES, stand))
            self.says(wanted, is_round_stuck(ONES, ONES, ONES, tuple(stand)))

    def test_by_the_bound_of_the_sense(self):
        self.says(True, is_round_stuck(TWOS, ONES, TWOS, [(1, 0)] * 3))
        self.says(False, is_round_stuck(TWOS, TWOS, ONES, [(1, 0)] * 3))
        self.says(True, is_round_stuck(TWOS, TWOS, ONES, [(0, 1)] * 3))
        self.says(False, is_round_stuck(TWOS, ONES, TWOS, [(0, 1)] * 3))
        self.says(True, is_round_stuck([3] * 3, ONES, ONES, [(1, 1)] * 3))
        self.says(True, is_round_stuck([3] * 3, ONES, TWOS, [(1, 2)] * 3))
        self.says(False, is_round_stuck([4] * 3, ONES, [3] * 3, [(1, 2)] * 3))

    def test_one_cart_that_can_go_on_is_enough(self):
        self.says(True, is_round_stuck([2, 1, 1], [2, 1, 1], [2, 1, 1], [(2, 0), (0, 1), (0, 0)]))
        self.says(False, is_round_stuck([2, 1, 1], [2, 1, 1], [2, 1, 1], [(1, 0), (0, 1), (0, 0)]))
        self.says(False, is_round_stuck([2, 1, 1], [2, 1, 1], [2, 1, 1], [(1, 1), (0, 1), (0, 0)]))

    def test_more_than_may_stand(self):
        self.says(False, is_round_stuck(ONES, ONES, ONES, [(1, 1)] * 3))
        # In one yard alone.
        self.says(False, is_round_stuck(ONES, ONES, ONES, [(1, 1), (1, 0), (1, 0)]))
        self.says(False, is_round_stuck(TWOS, ONES, ONES, [(1, 0), (1, 0), (2, 0)]))
        self.says(False, is_round_stuck(TWOS, ONES, ONES, [(0, 1), (0, 2), (0, 1)]))
        self.says(False, is_round_stuck(TWOS, ONES, ONES, [(2, 0)] * 3))
        self.says(False, is_round_stuck(TWOS, TWOS, ONES, [(0, 2)] * 3))
        self.says(True, is_round_stuck(TWOS, TWOS, ONES, [(1, 1)] * 3))
        self.says(False, is_round_stuck(TWOS, TWOS, TWOS, [(2, 1)] * 3))

    def test_any_value(self):
        stand = [(1, 0)] * 3
        for odd in ODD + ODD_LISTS + [stand[:2], stand * 2, [[1, 0]] * 3, [(1, 0), (1, 0), [1, 0]], [(1, 0), (1, 0), (True, 0)],
                                      [(1, False)] * 3, [(1, 0, 0)] * 3, [(1,)] * 3, [(1, -1)] * 3, [(10 ** 29, 0)] * 3,
                                      [("1", 0)] * 3, [(1, None)] * 3, [()] * 3, {0: (1, 0)}, "123", [1, 0, 1]]:
            with self.subTest(odd=repr(odd)):
                self.says(False, is_round_stuck(ONES, ONES, ONES, odd))
        self.says(True, is_round_stuck(ONES, ONES, ONES, stand))


class WrongInputsTest(Case):
    def test_in_their_sequence(self):
        no_places = NO_LISTS + [[1, 1], [1] * 8, [1, 0, 1], [7, 1, 1], [1, 1, 7], [1, True, 1], [1, None, 1], [1, "1", 1],
                                [1, -1, 1], [1, 10 ** 29, 1], [[1], 1, 1], [], (), "111", {0: 1, 1: 1, 2: 1}, (1, 1)]
        places = ("places", [2, 2, 2], InvalidPlaces, no_places)
        forward = ("forward", [1, 2, 1], InvalidForward, NO_BOUNDS)
        backward = ("backward", [2, 2, 1], InvalidBackward, NO_BOUNDS)
        for call in [round_fewest, round_stand]:
            self.refuses(call, places, forward, backward)
        self.refuses(is_round_stuck, places, forward, backward, ("value", None))

    def test_at_most_the_places_of_its_own_yard(self):
        self.fails(InvalidForward, {"value": [2, 3, 1]}, round_fewest, [3, 2, 1], [2, 3, 1], [2, 3, 1])
        self.fails(InvalidBackward, {"value": (2, 3, 1)}, round_stand, (3, 2, 1), (3, 2, 1), (2, 3, 1))
        self.assertEqual(round_fewest([6, 2, 1], [6, 2, 1], [6, 2, 1]), 3)

    def test_many_yards(self):
        for many in range(10):
            told = [[1] * many] * 3
            if 3 <= many <= 7:
                self.assertEqual(round_fewest(*told), 2)
            else:
                self.fails(InvalidPlaces, {"value": [1] * many}, round_fewest, *told)


class FactsTest(Case):
    def test_by_all_stands(self):
        chance = random.Random(44)
        kinds = []
        for many, most, times in [(3, 4, 60), (4, 3, 30), (5, 2, 15), (3, 6, 5)]:
            for _ in range(times):
                told = random_round(chance, many, most)
                least = None
                for stand in stands_of_round(*told):
                    wanted = is_stuck_by_carts(*told, stand)
                    if wanted and (least is None or sum(map(sum, stand)) < least):
                        least = sum(map(sum, stand))
                    self.says(wanted, is_round_stuck(*told, stand))
                self.assertEqual(round_fewest(*told), least)
                kinds.append((least == sum(told[1]), least == sum(told[2])))
                stand = round_stand(*told)
                self.assertEqual(sum(map(sum, stand)), least)
                self.says(True, is_round_stuck(*told, stand))
        for kind in [(True, False), (False, True), (False, False)]:
            self.assertTrue(kinds.count(kind) > 3, kinds)


if __name__ == "__main__":
    unittest.main()
