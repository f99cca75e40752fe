import itertools
import random
import unittest

from helpers import LINE, ODD, ODD_LISTS, SHORT, STAR, Case, bounded_book, coming_stands, random_book, random_load, random_walk
from helpers import random_web, slow_is_at_most, slow_outcome, slow_stands, slow_witnesses, small_webs, stands_of
from lanekeepers.claims import contrary, is_claim, is_paper_of, is_true, paper_of, words
from lanekeepers.countries import Country
from lanekeepers.errors import InvalidClaim
from lanekeepers.few import fewest, sums
from lanekeepers.steps import is_stuck
from lanekeepers.turns import turned
from lanekeepers.webs import Web
from wrong import BAD_LOADS, NO_CARTS, NO_STANDS, NO_WEB, PLAIN_ROW

PLAIN = [(2, [])]
KEPT = Web(LINE, [[(2, [(None, 2, 1)])], [(2, [(None, 3, 1)])], PLAIN])
MIXED = Web(LINE, [[(2, [(0, None, 1)])], PLAIN, PLAIN])
CHOICE = Web(LINE, [PLAIN, [(2, [(None, 3, 1)]), (1, []), (3, [(1, None, 0), (None, 3, 2), (3, 1, 1)])], PLAIN])
ROWS = [("never", "can"), ("allcome", "notall"), ("plugged", "free"), ("few", "more"), ("stands", "barred"), ("moves", "stuck")]
JAM = [(1, 0, 4), (1, 0, 4), (2, 4, 0), (2, 4, 0)]
ODD_WEBS = [LINE, None, "w", [LINE], 1, True]

GOOD = [(word, web) for word in ["never", "can", "allcome", "notall"] for web in [PLAIN_ROW, KEPT, turned(KEPT)]]
GOOD += [(word, web, 1, 2) for word in ["plugged", "free"] for web in [PLAIN_ROW, KEPT, MIXED]]
GOOD += [(word, web, many) for word in ["few", "more"] for web in [PLAIN_ROW, KEPT] for many in [0, 3, 4, 40]]
GOOD += [(word, CHOICE, 2, load) for word in ["stands", "barred"] for load in [[], (), [(1, 3, 2)], ((1, 3, 1), (3, 1, 1))]]
GOOD += [(word, PLAIN_ROW, stand) for word in ["moves", "stuck"] for stand in [JAM, tuple(JAM[::-1]), [(1, 0, 4)]]]


def bent(value):
    """The value bent in one place, in several ways; each of another kind or with another number."""
    if isinstance(value, (list, tuple)):
        kind = type(value)
        for at in range(len(value)):
            for part in bent(value[at]):
                yield kind([*value[:at], part, *value[at + 1:]])
            yield kind([*value[:at], *value[at + 1:]])
            yield kind([*value[:at + 1], *value[at:]])
    elif isinstance(value, int):
        yield value + 1
        yield value - 1
        yield None
        yield str(value)
        if value in (0, 1):
            yield bool(value)
    else:
        yield 0
        yield None if value is not None else "x"


def with_tuples(value):
    """All lists and tuples as tuples."""
    return tuple(with_tuples(part) for part in value) if isinstance(value, (list, tuple)) else value


class WordsTest(Case):
    def test_words(self):
        self.assertEqual(words(), ROWS)
        told = words()
        self.assertIs(type(told), list)
        told.append(1)
        self.assertEqual(words(), ROWS)


class ClaimTest(Case):
    def test_claims(self):
        for claim in GOOD:
            self.says(True, is_claim(claim))
            self.says(True, is_claim(value=claim))

    def test_of_another_kind(self):
        for odd in ODD + ODD_LISTS + NO_WEB + [PLAIN_ROW, (), ("never",), "never", ["never", PLAIN_ROW]]:
            self.says(False, is_claim(odd))
        for claim in GOOD:
            self.says(False, is_claim(list(claim)))
            self.says(False, is_claim(claim + (1,)))
            self.says(False, is_claim(claim[:-1]))
            self.says(False, is_claim(claim[1:]))
            self.says(False, is_claim((claim,)))
            for odd in ["Never", "never ", "", None, 1, ["never"], b"never", ("never",), "words"]:
                self.says(False, is_claim((odd,) + claim[1:]))
            for odd in ODD_WEBS:
                self.says(False, is_claim(claim[:1] + (odd,) + claim[2:]))

    def test_sides(self):
        for word in ["plugged", "free"]:
            for yard, target in [(1, 0), (0, 1), (1, 3), (3, 4), (1, 1), (True, 2), (1, None), ("1", 2), (1, 10 ** 29), (2, True), ([1], 2)]:
                self.says(False, is_claim((word, PLAIN_ROW, yard, target)))
            self.says(False, is_claim((word, PLAIN_ROW, (1, 2))))
            self.says(True, is_claim((word, MIXED, 2, 1)))

    def test_numbers(self):
        for word in ["few", "more"]:
            for many in ODD + [41, 10 ** 6]:
                self.says(False, is_claim((word, PLAIN_ROW, many)))
            for many in [0, 1, 40]:
                self.says(True, is_claim((word, PLAIN_ROW, many)))
                self.says(False, is_claim((word, MIXED, many)))

    def test_loads_and_stands(self):
        for word in ["stands", "barred"]:
            for load in BAD_LOADS + ODD:
                self.says(False, is_claim((word, PLAIN_ROW, 2, load)))
            for yard in [0, 4, 5, True, None, [2]]:
                self.says(False, is_claim((word, PLAIN_ROW, yard, [])))
            self.says(False, is_claim((word, PLAIN_ROW, 1, [(1, 3, 1)])))
            self.says(True, is_claim((word, PLAIN_ROW, 2, [(1, 3, 9)])))
        for word in ["moves", "stuck"]:
            for stand in NO_STANDS + ODD + [[cart] for cart in NO_CARTS] + [[], ()]:
                self.says(False, is_claim((word, PLAIN_ROW, stand)))
            self.says(False, is_claim((word, KEPT, JAM)))
            self.says(True, is_claim((word, turned(KEPT), [(1, 0, 4)])))

    def test_wrong_claims(self):
        odd = ODD + ODD_LISTS + [("never",), ["never", PLAIN_ROW], ("never", LINE), ("few", MIXED, 4), ("few", PLAIN_ROW, 41),
                                 ("moves", PLAIN_ROW, []), ("plugged", PLAIN_ROW, 1, 0), ("stands", PLAIN_ROW, 2, [(1, 3, True)])]
        for call in [is_true, contrary, paper_of]:
            self.refuses(call, ("claim", ("never", PLAIN_ROW), InvalidClaim, odd))
        self.refuses(is_paper_of, ("claim", ("never", PLAIN_ROW), InvalidClaim, odd), ("value", None))


class TruthTest(Case):
    def told(self, first, *parts):
        """The claim with the first word of its row is true, its contrary is not."""
        row = [row for row in ROWS if first in row][0]
        other = row[1] if first == row[0] else row[0]
        self.says(True, is_true((first,) + parts))
        self.says(True, is_true(claim=(first,) + parts))
        self.says(False, is_true((other,) + parts))

    def test_each_row(self):
        self.told("never", KEPT)
        self.told("can", PLAIN_ROW)
        self.told("never", Web(SHORT, [PLAIN]))
        self.told("can", turned(KEPT))
        self.told("allcome", turned(KEPT))
        self.told("notall", KEPT)
        self.told("notall", PLAIN_ROW)
        self.told("plugged", PLAIN_ROW, 1, 2)
        self.told("free", KEPT, 1, 2)
        self.told("plugged", KEPT, 2, 1)
        self.told("few", PLAIN_ROW, 4)
        self.told("few", PLAIN_ROW, 40)
        self.told("more", PLAIN_ROW, 3)
        self.told("more", PLAIN_ROW, 0)
        self.told("more", KEPT, 40)
        self.told("stands", PLAIN_ROW, 2, [(1, 3, 2)])
        self.told("barred", PLAIN_ROW, 2, [(1, 3, 3)])
        self.told("stands", PLAIN_ROW, 2, ())
        self.told("barred", CHOICE, 2, [(1, 3, 2)])
        self.told("stuck", PLAIN_ROW, JAM)
        self.told("stuck", PLAIN_ROW, tuple(JAM[::-1]))
        self.told("moves", PLAIN_ROW, [(2, 4, 0), (1, 0, 4), (1, 0, 4)])
        self.told("moves", PLAIN_ROW, [(3, 0, 4)])

    def test_contrary(self):
        for claim in GOOD:
            row = [row for row in ROWS if claim[0] in row][0]
            told = contrary(claim)
            self.assertIs(type(told), tuple)
            self.assertEqual(told, (row[1 - row.index(claim[0])],) + claim[1:])
            self.assertEqual(contrary(claim=told), claim)
            self.says(is_true(claim), not is_true(told))
            self.says(True, is_claim(told))
            self.assertEqual([type(part) for part in told], [type(part) for part in claim])

    def test_contrary_has_new_lists(self):
        stand, load = [(1, 0, 4)], [(1, 3, 1)]
        contrary(("moves", PLAIN_ROW, stand))[2].append(1)
        contrary(("stands", PLAIN_ROW, 2, load))[3].append(1)
        self.assertEqual([stand, load], [[(1, 0, 4)], [(1, 3, 1)]])
        tuples = ((1, 0, 4), (1, 0, 4))
        told = contrary(("moves", PLAIN_ROW, tuples))[2]
        self.assertEqual(told, tuples)
        self.assertIsNot(told, tuples)
        self.assertIsNot(told[0], tuples[0])


class PaperTest(Case):
    def papers(self, claim, good, odd):
        for value in good:
            with self.subTest(claim=claim[0], good=repr(value)):
                self.says(True, is_paper_of(claim, value))
                self.says(True, is_paper_of(value=value, claim=claim))
                self.says(False, is_paper_of(contrary(claim), value))
        for value in odd + ODD_LISTS + [PLAIN_ROW, LINE]:
            with self.subTest(claim=claim[0], odd=repr(value)):
                self.says(False, is_paper_of(claim, value))
                self.says(False, is_paper_of(claim, [value]))

    def test_posts(self):
        self.papers(("never", KEPT), [3], [odd for odd in ODD] + [1, 2, 0, 4, [3], (3,)])
        for word in ["never", "allcome"]:
            self.papers((word, Web(SHORT, [PLAIN])), [1], ODD + [0, 2])
        self.papers(("allcome", turned(KEPT)), [3], ODD + [1, 2, 0, 4])
        self.papers(("never", PLAIN_ROW), [], ODD + [1, 2, 3])
        self.papers(("allcome", KEPT), [], ODD + [1, 2, 3])

    def test_facing_sides(self):
        pairs = [((1, 2), (2, 1)), ((2, 1), (1, 2)), ((3, 2), (1, 2)), ((2, 3), (3, 2))]
        odd = [list(pairs[0]), ((1, 2), [2, 1]), ([1, 2], (2, 1)), ((2, 1), (3, 2)), ((1, 2), (1, 2)), ((1, 2), (2, 3)), ((1, 2),),
               ((1, 2), (2, 1), (2, 3)), ((True, 2), (2, True)), ((1, 2), (2, 1.5 > 1)), ((1, 0), (0, 1)), (1, 2), ((2, 1), (2, 3)),
               ((1, 3), (3, 1)), ((1, 2), None), 2, None, "1>2,2>1"]
        self.papers(("can", PLAIN_ROW), pairs, odd)
        self.papers(("notall", PLAIN_ROW), pairs, odd)
        # KEPT can't be stuck; the turned one can, and just so not all come.
        self.papers(("can", KEPT), [], pairs)
        self.papers(("notall", KEPT), [((1, 2), (3, 2)), ((3, 2), (2, 3))], [((1, 2), (2, 1))])
        self.papers(("can", turned(KEPT)), [((1, 2), (3, 2)), ((3, 2), (2, 3))], odd[:3] + [((1, 2), (2, 1))])

    def test_witnesses(self):
        self.papers(("plugged", PLAIN_ROW, 1, 2), [([(0, 2, 2)], 0), (((0, 2, 2),), 0)],
                    [([(0, 2, 1)], 0), ([(0, 2, 2)], 2), ([(0, 2, 2)], 3), [[(0, 2, 2)], 0], ([[0, 2, 2]], 0), ([(0, 2, 2)], False),
                     ([(0, 2, 3)], 0), ([], 0), ([(2, 0, 2)], 0), 0, None])
        self.papers(("plugged", KEPT, 1, 2), [], [([(0, 2, 1)], 0), ([(0, 2, 2)], 0)])

    def test_heaviest(self):
        self.papers(("free", KEPT, 1, 2), [[[(0, 2, 1)]], (((0, 2, 1),),), [((0, 2, 1),)]],
                    [[], [[(0, 2, 1)], [(0, 2, 1)]], [[(0, 2, 2)]], [[[0, 2, 1]]], [[(0, 2, True)]], [[(False, 2, 1)]], (0, 2, 1),
                     {0: 1}, [[(0, 2, 1)], []], [[(2, 0, 1)]], None])
        star = Web(STAR, [[(3, [(None, 1, 2)])], PLAIN, PLAIN, PLAIN])
        loads = [[(2, 1, 2)], [(2, 1, 1), (3, 1, 1)], [(3, 1, 2)]]
        self.papers(("free", star, 0, 1), [list(told) for told in itertools.permutations(loads)] + [with_tuples(loads)],
                    [loads[:2], loads + loads[:1], loads[1:], [[(2, 1, 2)], [(2, 1, True), (3, 1, 1)], [(3, 1, 2)]],
                     [[(2, 1, 2)], [(2, 1, 1), [3, 1, 1]], [(3, 1, 2)]]])
        # Of a plugged side the heaviest loads are no paper.
        self.papers(("free", PLAIN_ROW, 1, 2), [], [[[(0, 2, 2)]]])

    def test_scripts(self):
        jam = [("in", 4, 0), ("on", 3, 4, 0), ("in", 4, 0), ("on", 3, 4, 0), ("in", 0, 4), ("in", 0, 4)]
        self.papers(("few", PLAIN_ROW, 4), [jam, tuple(jam)], [jam[:-1], jam[1:], jam[::-1], [list(jam[0])] + jam[1:], [], None])
        self.papers(("few", PLAIN_ROW, 40), [jam], [jam + [("in", 0, 4)]])
        self.papers(("few", PLAIN_ROW, 3), [], [jam])
        self.papers(("few", KEPT, 40), [], [jam])

    def test_sums(self):
        told = sums(PLAIN_ROW)
        self.assertEqual(told, [(4, (1, 2), (2, 1)), (4, (2, 3), (3, 2)), (6, (1, 2), (3, 2))])
        odd = [told[1:], told + told[:1], [list(told[0])] + told[1:], [(4, [1, 2], (2, 1))] + told[1:], [(4, (2, 1), (1, 2))] + told[1:],
               [(5, (1, 2), (2, 1))] + told[1:], [(4, (1, 2))] + told[1:], [(4, (True, 2), (2, 1))] + told[1:], [], (), None, [4, 4, 6]]
        for many in [0, 3]:
            self.papers(("more", PLAIN_ROW, many), [list(row) for row in itertools.permutations(told)] + [tuple(told)], odd)
        for many in [4, 5, 40]:
            self.papers(("more", PLAIN_ROW, many), [], odd + [told])
        self.papers(("more", KEPT, 40), [[], ()], [told, None, {}, ""])

    def test_positions_of_alternatives(self):
        load = [(1, 3, 1)]
        self.papers(("stands", CHOICE, 2, load), [0, 1], ODD + [2, 3, [0], (1,)])
        self.papers(("stands", CHOICE, 2, [(3, 1, 1)]), [0, 1, 2], ODD + [3])
        self.papers(("stands", CHOICE, 2, [(1, 3, 2)]), [], ODD + [0, 1, 2])
        self.papers(("stands", PLAIN_ROW, 2, [(3, 1, 2)]), [0], ODD + [1, 2])

    def test_what_bars(self):
        # The first bound of the first alternative; the places of the second one; of the third one the first bound.
        self.papers(("barred", CHOICE, 2, [(1, 3, 2)]), [[0, None, 0], (0, None, 0)],
                    [[0, None, 1], [0, None, 2], [0, None, None], [None, None, 0], [0, 0, 0], [0, None], [0, None, 0, 0], [False, None, 0],
                     [0, None, False], [0, None, -1], [0, None, 3], [0, None, "0"], [0, None, [0]], None, 0, {}])
        # More carts than places in each: a bound that is passed may be told then, too.
        self.papers(("barred", CHOICE, 2, [(1, 3, 4)]), [[None, None, None], [0, None, None], [None, None, 1], [0, None, 0]],
                    [[1, None, None], [None, 0, None], [None, None, 2]])
        self.papers(("barred", CHOICE, 2, [(3, 1, 2), (1, 3, 2)][::-1]), [[None, None, None], [0, None, 0], [None, None, 2]], [])
        self.papers(("barred", CHOICE, 2, [(1, 3, 1)]), [], [[0, None, 0], [None, None, 0], [0, None, None]])

    def test_steps(self):
        stand = [(2, 4, 0), (1, 0, 4), (3, 0, 4)]
        self.papers(("moves", PLAIN_ROW, stand), [("on", 1, 0, 4), ("on", 2, 4, 0), ("on", 3, 0, 4)],
                    [["on", 1, 0, 4], ("on", 2, 0, 4), ("in", 0, 4), ("on", 1, 4, 0), ("on", True, 0, 4), (1, 0, 4), None, "on 1:0>4"])
        self.papers(("moves", PLAIN_ROW, JAM), [], [("on", 1, 0, 4), ("on", 2, 4, 0), ("in", 4, 0)])
        self.papers(("stuck", PLAIN_ROW, JAM), [], ODD + [("on", 1, 0, 4), JAM])

    def test_told_papers_and_bent_ones(self):
        for claim in GOOD:
            told = paper_of(claim)
            self.assertEqual(paper_of(claim=claim), told)
            self.says(is_true(claim) and claim[0] != "stuck", told is not None)
            if told is None:
                continue
            self.says(True, is_paper_of(claim, told))
            self.says(False, is_paper_of(contrary(claim), told))
            for value in bent(told):
                # Another post, a longer way to the same stand and the like are good papers, too.
                if is_paper_of(claim, value):
                    self.assertIn(claim[0], ["few", "barred", "stands", "plugged"])
                    self.assertNotIn(True, [type(part) is bool for part in value] if isinstance(value, (list, tuple)) else [value is True])
                self.says(False, is_paper_of(contrary(claim), value))

    def test_lists_are_new(self):
        for claim in [("free", KEPT, 1, 2), ("few", PLAIN_ROW, 4), ("more", PLAIN_ROW, 3), ("barred", CHOICE, 2, [(1, 3, 2)])]:
            told, wanted = paper_of(claim), paper_of(claim)
            told.append(1)
            self.assertEqual(paper_of(claim), wanted)


class FactsTest(Case):
    def one_is_true(self, claim):
        """Just one of a claim and its contrary is true; the true one has a paper, if its kind has, the other one none."""
        other = contrary(claim)
        self.says(is_true(claim), not is_true(other))
        for one in (claim, other):
            paper = paper_of(one)
            self.says(paper is not None, is_true(one) and one[0] != "stuck")
            if paper is not None:
                self.says(True, is_paper_of(one, paper))
                self.says(True, is_paper_of(one, paper if one[0] not in ("free", "few", "more", "barred") else tuple(paper)))
                self.says(False, is_paper_of(contrary(one), paper))
        return is_true(claim)

    def test_whole_webs(self):
        chance = random.Random(54)
        seen = {}
        for web in small_webs(chance, 30, lambda chance, country, yard: random_book(chance, country.neighbours(yard), 2), 150):
            stands, coming = stands_of(web), coming_stands(web)
            stuck = [stand for stand in coming if is_stuck(web, stand)]
            self.says(stuck == [], self.one_is_true(("never", web)))
            self.says(stands == coming, self.one_is_true(("allcome", web)))
            for stand in [stand for stand in stands if stand][::7]:
                moves = any(slow_outcome(web, stand, ("on",) + cart) is not None for cart in stand)
                self.says(moves, self.one_is_true(("moves", web, stand)))
                seen["moves", moves] = True
            seen["never", stuck == []], seen["allcome", stands == coming] = True, True
        self.assertEqual(len(seen), 6)

    def test_sides_and_loads(self):
        chance = random.Random(55)
        seen = {}
        for _ in range(40):
            web = random_web(chance)
            for yard in web.country.yards:
                for target in web.country.neighbours(yard):
                    if target in web.country.yards:
                        plugged = slow_witnesses(web, yard, target) != []
                        self.says(plugged, self.one_is_true(("plugged", web, yard, target)))
                        seen["plugged", plugged] = True
                load = random_load(chance, web.country.neighbours(yard))
                stands = slow_stands(web.book(yard), load)
                self.says(stands, self.one_is_true(("stands", web, yard, load)))
                seen["stands", stands] = True
        self.assertEqual(len(seen), 4)

    def test_free_by_the_heaviest(self):
        chance = random.Random(56)
        tried = 0
        for _ in range(60):
            web = random_web(chance)
            for yard in web.country.yards:
                for target in web.country.neighbours(yard):
                    if target in web.country.yards and not slow_witnesses(web, yard, target):
                        paper = paper_of(("free", web, yard, target))
                        # None of them is at most another one, and none can have one cart more.
                        for one, other in itertools.permutations(paper, 2):
                            self.says(False, slow_is_at_most(one, other))
                        tried += len(paper) > 1
        self.assertTrue(tried > 0)

    def test_with_how_few(self):
        chance = random.Random(57)
        seen = {}
        for web in small_webs(chance, 15, lambda chance, country, yard: bounded_book(chance, country, yard, 2), 150):
            for many in [0, 1, 2, 3, 4, 5, 40]:
                stuck = any(is_stuck(web, stand) for stand in coming_stands(web, many))
                self.says(stuck, self.one_is_true(("few", web, many)))
                seen[stuck] = True
        self.assertEqual(len(seen), 2)

    def test_just_at_the_least_sum_of_40_and_more(self):
        row = Country([(k, k + 1) for k in range(8)])
        for ends, wanted in [(6, 42), (5, 40)]:
            inner = [[(6, [(None, k - 1, 3), (None, k + 1, 3)])] for k in range(2, 7)]
            web = Web(row, [[(ends, [])]] + inner + [[(ends, [])]])
            self.assertEqual(fewest(web), wanted)
            self.says(wanted == 40, self.one_is_true(("few", web, 40)))
            self.says(False, self.one_is_true(("few", web, 39)))


if __name__ == "__main__":
    unittest.main()
