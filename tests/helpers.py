"""What several tests share: wrong values, random countries and books by a fixed seed, and a case that
looks at the errors closely."""

import random
import unittest

from lanekeepers.countries import Country

# Values of all kinds that are no country, no web, no list of anything, and no place of a small country.
ODD = [None, True, False, -1, 99, 10 ** 29, "", "1", b"1", {}, {1: 2}, {1, 2}, int, len, object(), LookupError("x")]
ODD_LISTS = [[None], [True], ["1"], [[]], [()], (1, 2, 3, 4, 5, 6, 7), [object()], [{}]]

LINE = Country([(0, 1), (1, 2), (2, 3), (3, 4)])
STAR = Country([(0, 1), (0, 2), [3, 0], (1, 4), (2, 5), (3, 6)])
SHORT = Country([(0, 1), (1, 2)])
# Seven yards, 1 to 7 in a row, and as many gates as there can be: each yard has four lanes.
FULL = Country([(1, 2), (2, 3), (3, 4), (4, 5), (5, 6), (6, 7), (1, 0), (1, 8), (1, 9), (2, 10), (2, 11),
                (3, 12), (3, 13), (4, 14), (4, 15), (5, 16), (5, 17), (6, 18), (6, 19), (7, 20), (7, 21), (7, 22)])


class Case(unittest.TestCase):
    def fails(self, error, told, call, *args, **named):
        """The call raises just this error, with these attributes, of the same kinds."""
        with self.assertRaises(error) as caught:
            call(*args, **named)
        self.assertIs(type(caught.exception), error)
        for name in told:
            held = getattr(caught.exception, name)
            self.assertIs(type(held), type(told[name]))
            self.assertEqual(held, told[name])

    def fails_for(self, error, values, call):
        """The call raises this error, with the value, for each of these values."""
        for value in values:
            with self.subTest(value=repr(value)):
                self.fails(error, {"value": value}, call, value)

    def says(self, wanted, value):
        """The value is this bool itself, not something that is equal to it."""
        self.assertIs(value, wanted)


def random_lanes(chance):
    """The lanes of some country of one to seven yards, in some sequence, with some numbers."""
    many = chance.randint(1, 7)
    lanes, lanes_at = [], [0] * many
    for yard in range(1, many):
        one = chance.choice([place for place in range(yard) if lanes_at[place] < 4])
        lanes.append((one, yard))
        lanes_at[one] += 1
        lanes_at[yard] += 1
    last = many
    for yard in range(many):
        for _ in range(chance.randint(max(0, 2 - lanes_at[yard]), 4 - lanes_at[yard])):
            lanes.append((yard, last))
            last += 1
    numbers = list(range(last))
    chance.shuffle(numbers)
    chance.shuffle(lanes)
    return [chance.choice([(numbers[a], numbers[b]), [numbers[b], numbers[a]]]) for a, b in lanes]


def random_country(chance):
    return Country(random_lanes(chance))


def random_bound(chance, around):
    origin, target = chance.sample(around, 2)
    return chance.choice([(origin, target), (None, target), (origin, None)]) + (chance.randint(0, 3),)


def lets_single_carts(around, book):
    """Whether some alternative forbids no cart of the pair, for each pair."""
    return all(any(all(most or origin not in (None, a) or target not in (None, b) for origin, target, most in bounds)
                   for _, bounds in book) for a in around for b in around if a != b)


def random_book(chance, around, places=4):
    while True:
        book = [(chance.randint(1, places), [random_bound(chance, around) for _ in range(chance.randint(0, 2))])
                for _ in range(chance.randint(1, 2))]
        if lets_single_carts(around, book):
            return book


def random_load(chance, around, most=3):
    pairs = [(a, b) for a in around for b in around if a != b]
    return sorted(pair + (chance.randint(1, most),) for pair in chance.sample(pairs, chance.randint(0, min(3, len(pairs)))))
