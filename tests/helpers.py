"""What several tests share: wrong values, a case that looks at the errors closely, random countries, books and
webs (by a chance with a fixed seed), and slow ways to reckon what the package reckons."""

import itertools
import math
import unittest

from lanekeepers.countries import Country
from lanekeepers.steps import outcome
from lanekeepers.webs import Web

# Values of all kinds that are no country, no web, no list of anything, and no place of a small country.
ODD = [None, True, False, -1, 99, 10 ** 29, "", "1", b"1", {}, {1: 2}, {1, 2}, int, len, object(), LookupError("x")]
ODD_LISTS = [[None], [True], ["1"], [[]], [()], (1, 2, 3, 4, 5, 6, 7), [object()], [{}]]

LINE = Country([(0, 1), (1, 2), (2, 3), (3, 4)])
STAR = Country([(0, 1), (0, 2), [3, 0], (1, 4), (2, 5), (3, 6)])
SHORT = Country([(0, 1), (1, 2)])
# Seven yards, 1 to 7 in a row, and as many gates as there can be: each yard has four lanes.
FULL = Country([(1, 2), (2, 3), (3, 4), (4, 5), (5, 6), (6, 7), (1, 0), (1, 8), (1, 9), (2, 10), (2, 11),
                (3, 12), (3, 13), (4, 14), (4, 15), (5, 16), (5, 17), (6, 18), (6, 19), (7, 20), (7, 21), (7, 22)])


class Case(unittest.TestCase):
    def fails(self, error, told, call, *args, **named):
        """The call raises just this error, with these attributes, of the same kinds."""
        with self.assertRaises(error) as caught:
            call(*args, **named)
        self.assertIs(type(caught.exception), error)
        for name in told:
            held = getattr(caught.exception, name)
            self.assertIs(type(held), type(told[name]))
            self.assertEqual(held, told[name])

    def fails_for(self, error, values, call):
        """The call raises this error, with the value, for each of these values."""
        for value in values:
            with self.subTest(value=repr(value)):
                self.fails(error, {"value": value}, call, value)

    def refuses(self, call, *params):
        """Each param is a tuple of its name, a good value, and, where an error is told for it, the error and values
        for which it is raised. It is, by position and by name, also where all params behind it are wrong, too."""
        names = [param[0] for param in params]
        for at, param in enumerate(params):
            for odd in param[3] if len(param) == 4 else []:
                with self.subTest(call=call.__name__, name=param[0], value=repr(odd)):
                    values = [ahead[1] for ahead in params[:at]] + [odd]
                    values += [behind[3][0] if len(behind) == 4 else behind[1] for behind in params[at + 1:]]
                    self.fails(param[2], {"value": odd}, call, *values)
                    self.fails(param[2], {"value": odd}, call, **dict(list(zip(names, values))[::-1]))

    def says(self, wanted, value):
        """The value is this bool itself, not something that is equal to it."""
        self.assertIs(value, wanted)


def random_lanes(chance):
    """The lanes of some country of one to seven yards, in some sequence, with some numbers."""
    many = chance.randint(1, 7)
    lanes, lanes_at = [], [0] * many
    for yard in range(1, many):
        one = chance.choice([place for place in range(yard) if lanes_at[place] < 4])
        lanes.append((one, yard))
        lanes_at[one] += 1
        lanes_at[yard] += 1
    last = many
    for yard in range(many):
        for _ in range(chance.randint(max(0, 2 - lanes_at[yard]), 4 - lanes_at[yard])):
            lanes.append((yard, last))
            last += 1
    numbers = list(range(last))
    chance.shuffle(numbers)
    chance.shuffle(lanes)
    return [chance.choice([(numbers[a], numbers[b]), [numbers[b], numbers[a]]]) for a, b in lanes]


def random_country(chance):
    return Country(random_lanes(chance))


def random_bound(chance, around):
    origin, target = chance.sample(around, 2)
    return chance.choice([(origin, target), (None, target), (origin, None)]) + (chance.randint(0, 3),)


def lets_single_carts(around, book):
    """Whether some alternative forbids no cart of the pair, for each pair."""
    return all(any(all(most or origin not in (None, a) or target not in (None, b) for origin, target, most in bounds)
                   for _, bounds in book) for a in around for b in around if a != b)


def random_book(chance, around, places=4):
    while True:
        book = [(chance.randint(1, places), [random_bound(chance, around) for _ in range(chance.randint(0, 2))])
                for _ in range(chance.randint(1, 2))]
        if lets_single_carts(around, book):
            return book


def random_load(chance, around, most=3):
    pairs = [(a, b) for a in around for b in around if a != b]
    return sorted(pair + (chance.randint(1, most),) for pair in chance.sample(pairs, chance.randint(0, min(3, len(pairs)))))


def random_web(chance, places=3):
    country = random_country(chance)
    return Web(country, [random_book(chance, country.neighbours(yard), places) for yard in country.yards])


def slow_way(country, start, end):
    """By going through all walks that never come back."""
    walks = [[start]]
    while True:
        for walk in walks:
            if walk[-1] == end:
                return walk
        walks = [walk + [near] for walk in walks for near in country.neighbours(walk[-1]) if near not in walk]


def slow_stands(book, load):
    """By counting one cart after the other."""
    carts = [(origin, target) for origin, target, many in load for _ in range(many)]
    for places, bounds in book:
        kept = len(carts) <= places
        for origin, target, most in bounds:
            met = [cart for cart in carts if (origin is None or cart[0] == origin) and (target is None or cart[1] == target)]
            kept = kept and len(met) <= most
        if kept:
            return True
    return False


def loads_up_to(around, most):
    """All loads of at most so many carts."""
    pairs = [(a, b) for a in around for b in around if a != b]
    for many in range(most + 1):
        for carts in itertools.combinations_with_replacement(pairs, many):
            yield [pair + (carts.count(pair),) for pair in pairs if pair in carts]


def slow_load(country, carts, yard):
    """By looking up each cart on its whole way."""
    pairs = []
    for place, start, end in carts:
        if place == yard:
            walk = slow_way(country, start, end)
            at = walk.index(yard)
            pairs.append((walk[at - 1], walk[at + 1]))
    return [pair + (pairs.count(pair),) for pair in sorted(set(pairs))]


def slow_is_stand(web, carts):
    return all(slow_stands(web.book(yard), slow_load(web.country, carts, yard)) for yard in web.country.yards)


def slow_outcome(web, carts, step):
    """What comes of a step, by the whole stand; None if it can't be done."""
    rest = list(carts)
    if step[0] == "in":
        walk = slow_way(web.country, step[1], step[2])
        rest.append((walk[1],) + step[1:])
    else:
        if step[1:] not in rest:
            return None
        rest.remove(step[1:])
        walk = slow_way(web.country, step[2], step[3])
        place = walk[walk.index(step[1]) + 1]
        if place != step[3]:
            rest.append((place,) + step[2:])
    return sorted(rest) if slow_is_stand(web, rest) else None


def all_steps(country):
    """All steps that there are, whether or not they can be done."""
    ways = [(a, b) for a in country.gates for b in country.gates if a != b]
    return [("in",) + pair for pair in ways] + [
        ("on", yard) + pair for pair in ways for yard in slow_way(country, *pair)[1:-1]]


def random_walk(chance, web, many):
    """Some steps that can be done one after the other from the empty stand, and the stands behind each of them."""
    steps, stands = [], [[]]
    pool = all_steps(web.country)
    for _ in range(many):
        step = chance.choice(pool)
        told = slow_outcome(web, stands[-1], step)
        if told is not None:
            steps.append(step)
            stands.append(told)
    return steps, stands


def slow_witnesses(web, yard, target):
    """All witnesses of a side, each with the number of its carts ahead, sorted as they are told."""
    book, around = web.book(yard), web.country.neighbours(yard)
    pairs = [(origin, target) for origin in around if origin != target]
    told = []
    for many in range(1, 7):
        for carts in itertools.combinations_with_replacement(pairs, many):
            load = [pair + (carts.count(pair),) for pair in pairs if pair in carts]
            for barred in around:
                more = load + [(target, barred, 1)]
                if barred != target and slow_stands(book, load) and not slow_stands(book, more):
                    told.append((many, load, barred))
    return sorted(told)


def slow_sides(country):
    return sorted((a, b) for a in country.yards for b in country.yards if b in country.neighbours(a))


def slow_is_towards(country, side, yard):
    return slow_way(country, side[0], yard)[:2] == list(side)


def slow_posts(country, plugged):
    return [yard for yard in country.yards if not any(slow_is_towards(country, side, yard) for side in plugged)]


def slow_facing(country, plugged):
    return sorted((one, other) for one in plugged for other in plugged if one < other
                  and slow_is_towards(country, one, other[0]) and slow_is_towards(country, other, one[0]))


def bounded_book(chance, country, yard, most=6):
    places = chance.randint(1, most)
    near = [other for other in country.neighbours(yard) if other in country.yards]
    chance.shuffle(near)
    return [(places, [(None, other, chance.randint(1, places)) for other in near if chance.random() < 0.8])]


def bounded_web(chance, most=6):
    country = random_country(chance)
    return Web(country, [bounded_book(chance, country, yard, most) for yard in country.yards])


def standing_carts(web, yard):
    """All sorted lists of carts that can stand in the yard."""
    kinds = []
    for start in web.country.gates:
        for end in web.country.gates:
            walk = slow_way(web.country, start, end)
            if start != end and yard in walk:
                at = walk.index(yard)
                kinds.append(((yard, start, end), (walk[at - 1], walk[at + 1])))
    told = []
    for many in range(7):
        rows = [row for row in itertools.combinations_with_replacement(kinds, many)
                if slow_stands(web.book(yard), [pair + (1,) for _, pair in row])]
        told += [[cart for cart, _ in row] for row in rows]
        # Of more carts none stand, if so many never do.
        if not rows:
            break
    return told


def stands_of(web):
    """All stands of a small web: a list of sorted lists."""
    told = [[]]
    for yard in web.country.yards:
        carts = standing_carts(web, yard)
        told = [stand + row for stand in told for row in carts]
    return sorted(sorted(stand) for stand in told)


def coming_stands(web, most=42):
    """All stands of a small web to which scripts lead with never more than so many carts."""
    seen, waiting = {()}, [()]
    pool = all_steps(web.country)
    while waiting:
        stand = waiting.pop()
        for step in pool:
            if step[0] == "in" or step[1:] in stand:
                told = outcome(web, stand, step)
                if told is not None and len(told) <= most and tuple(told) not in seen:
                    seen.add(tuple(told))
                    waiting.append(tuple(told))
    return sorted(list(stand) for stand in seen)


def small_webs(chance, many, make, most=250):
    """So many random webs of two or three yards with at most so many stands."""
    told = []
    while len(told) < many:
        country = random_country(chance)
        if len(country.yards) in (2, 3) and len(country.gates) < 5:
            web = Web(country, [make(chance, country, yard) for yard in country.yards])
            if math.prod(len(standing_carts(web, yard)) for yard in country.yards) <= most:
                told.append(web)
    return told


def load_of_carts(pairs):
    """The load of carts told by their pairs of origin and target."""
    return [pair + (pairs.count(pair),) for pair in sorted(set(pairs))]


def slow_is_at_most(load, other):
    """By taking the carts of the load out of the other one, one by one."""
    rest = [(a, b) for a, b, many in other for _ in range(many)]
    for a, b, many in load:
        for _ in range(many):
            if (a, b) not in rest:
                return False
            rest.remove((a, b))
    return True


def slow_surely_let(known, load):
    return sum(many for _, _, many in load) < 2 or any(slow_is_at_most(load, seen) for seen in known[1])


def slow_surely_refused(known, load):
    return sum(many for _, _, many in load) > known[0] or any(slow_is_at_most(seen, load) for seen in known[2])


def random_known(chance, around, places, most_let, most_refused):
    """A known with these places of the yard with these neighbours, with some loads of two carts and more."""
    pairs = [(a, b) for a in around for b in around if a != b]
    let = [load_of_carts(chance.choices(pairs, k=chance.randint(1, places))) for _ in range(chance.randint(0, most_let))]
    refused = []
    for _ in range(chance.randint(0, most_refused)):
        load = load_of_carts(chance.choices(pairs, k=chance.randint(2, places + 1)))
        if not slow_surely_let((places, let, []), load):
            refused.append(load)
    return places, let, refused


def all_fillings(around, known):
    """All fillings of the yard that fit, each as the list of all loads that stand by it; for few open loads."""
    loads = list(loads_up_to(around, known[0]))
    sure = [load for load in loads if slow_surely_let(known, load)]
    free = [load for load in loads if load not in sure and not slow_surely_refused(known, load)]
    told = []
    for taken in itertools.product([False, True], repeat=len(free)):
        more = [load for load, is_taken in zip(free, taken) if is_taken]
        standing = sure + more
        less = [other for load in more for other in free if slow_is_at_most(other, load)]
        if all(other in standing for other in less):
            told.append(standing)
    return told


def greatest_of(loads):
    """The filling that tells what is at most one of these loads."""
    return sorted(load for load in loads if not any(load != other and slow_is_at_most(load, other) for other in loads))


def slow_plugged_by(around, standing, target):
    """Whether the side towards the target is plugged if just these loads stand."""
    for load in standing:
        if load and all(entry[1] == target for entry in load):
            carts = [(a, b) for a, b, many in load for _ in range(many)]
            if any(near != target and load_of_carts(carts + [(target, near)]) not in standing for near in around):
                return True
    return False
