import random
import re
import unittest

from helpers import FULL, LINE, ODD, ODD_LISTS, SHORT, Case
from lanekeepers.countries import Country
from lanekeepers.errors import InvalidCountry, InvalidText, InvalidWeb, InvalidYard
from lanekeepers.readers import book_of, country_of, stand_of, steps_of, web_of
from lanekeepers.webs import Web
from wrong import NO_COUNTRY, NO_WEB, NO_YARD, PLAIN_ROW

PLAIN = [(2, [])]
NO_STRINGS = [odd for odd in ODD if not isinstance(odd, str)] + ODD_LISTS + [["0-1, 1-2"], b"0-1, 1-2"]

NUMBER = "(?:0|[1-9][0-9]{0,5})"
LANE = f"{NUMBER}-{NUMBER}"
BOUND = f"{NUMBER}(?:<{NUMBER}(?:>{NUMBER})?|>{NUMBER})"
ALTERNATIVE = f"{NUMBER}(?:,{BOUND})*"
BOOK = f"{ALTERNATIVE}(?:;{ALTERNATIVE})*"
CART = f"{NUMBER}:{NUMBER}>{NUMBER}"
STEP = f"(?:in{NUMBER}>{NUMBER}|on{CART})"
# A pattern for each kind of text, and ends such that some of them completes whatever can be led on.
KINDS = {
    "country": (f"{LANE}(?:,{LANE})*", ["", "0", "-0", "0-0"]),
    "book": (BOOK, ["", "0", ">0", "0>0"]),
    "web": (f"{LANE}(?:,{LANE})*(?:[|]{BOOK})+", ["", "0", ">0", "0>0", "|0", "0|0", "-0|0", "0-0|0"]),
    "stand": (f"(?:-|{CART}(?:,{CART})*)", ["", "0", ">0", "0>0", ":0>0", "0:0>0"]),
    "steps": (f"(?:-|{STEP}(?:,{STEP})*)", ["", "0", ">0", "0>0", ":0>0", "0:0>0", "n0>0", "n0:0>0", "in0>0"]),
}


def with_spaces(pattern):
    """The pattern with spaces between all its pieces, not within numerals and words."""
    pieces = re.findall(r"\(\?:0\|\[1-9\]\[0-9\]\{0,5\}\)|\(\?:|\[\|\]|[)][*+?]?|in|on|.", pattern)
    told = "".join(piece if piece in ("(?:", "|") or piece[0] == ")" else piece + " *" for piece in pieces)
    return re.compile(" *" + told)


PATTERNS = {kind: with_spaces(KINDS[kind][0]) for kind in KINDS}


def slow_position(kind, text):
    """The wrong position, by trying ends behind each part of the text; -1 if it is readable."""
    pattern, ends = PATTERNS[kind], KINDS[kind][1]
    if pattern.fullmatch(text):
        return -1
    for at in range(len(text)):
        if not any(pattern.fullmatch(text[:at + 1] + end) for end in ends):
            return at
    return len(text)


def read(kind, text):
    """Reads the text as one of this kind, of LINE or PLAIN_ROW."""
    if kind == "country":
        return country_of(text)
    if kind == "book":
        return book_of(LINE, 2, text)
    if kind == "web":
        return web_of(text)
    return stand_of(PLAIN_ROW, text) if kind == "stand" else steps_of(LINE, text)


class Reading(Case):
    def wrong(self, kind, *pairs):
        for text, position in pairs:
            with self.subTest(kind=kind, text=text):
                with self.assertRaises(InvalidText) as caught:
                    read(kind, text)
                self.assertEqual(caught.exception.position, position)
                self.assertNotIsInstance(caught.exception.position, bool)


class CountryTest(Reading):
    def test_readable(self):
        for text in ["0-1, 1-2, 2-3, 3-4", "0-1,1-2,2-3,3-4", "3-4,2-1,0-1,3-2", " 0 - 1 ,  1-2,2 -3,3- 4  "]:
            told = country_of(text)
            self.assertIs(type(told), Country)
            self.says(True, told == LINE)
            self.says(True, country_of(text=text) == LINE)
        self.says(True, country_of(", ".join(f"{a}-{b}" for a, b in FULL.lanes)) == FULL)

    def test_wrong_positions(self):
        self.wrong("country", ("", 0), ("   ", 3), ("x", 0), ("-", 0), (",", 0), ("0", 1), ("0-", 2), ("0-1,", 4), ("0-1, ", 5),
                   ("0-1;", 3), ("0-1 1-2", 4), ("0-1,,1-2", 4), ("0-1-2", 3), ("0--1", 2), ("0-1, 1-2 x", 9), ("x0-1, 1-2", 0),
                   ("0-1, 1-2|2", 8), ("0-1\n, 1-2", 3), ("\n0-1, 1-2", 0), ("0-1, 1-2\n", 8), ("0-1, 1-2,", 9))

    def test_numerals(self):
        self.wrong("country", ("00-1", 1), ("01-2", 1), ("0-00", 3), ("0-01", 3), ("1234567-0", 6), ("0-1234567", 8),
                   ("1 2-3", 2), ("0 1-2", 2), ("0-1 2", 4), ("+1-2", 0), ("1a-2", 1), ("123456", 6), ("0-1, 10 0-1", 8))
        # Readable, but no country.
        self.wrong("country", ("123456-999999", None), ("100000-0", None))

    def test_no_country(self):
        self.wrong("country", ("0-1", None), ("0-0", None), ("0-1,1-2,2-0", None), ("0-1,0-1,1-2", None), ("0-1,2-3", None),
                   ("1-2,2-3", None), ("0-1,0-2,0-3,0-4,0-5", None), ("0-1, 1-2, 1-0", None), ("0-2", None))
        self.wrong("country", (",".join(f"{k}-{k + 1}" for k in range(9)), None))
        self.assertEqual(country_of(",".join(f"{k}-{k + 1}" for k in range(8))).yards, [1, 2, 3, 4, 5, 6, 7])


class BookTest(Reading):
    def test_readable(self):
        wanted = [(3, [(1, 3, 1), (None, 1, 2), (3, None, 0)]), (2, [])]
        for text in ["3, 1<1>3, 2>1, 0<3; 2", "3,1<1>3,2>1,0<3;2", " 3 , 1 < 1 > 3 ,2 > 1,0< 3 ;  2 "]:
            for told in [book_of(LINE, 2, text), book_of(text=text, yard=2, country=LINE)]:
                self.assertEqual(told, wanted)
                self.assertEqual([type(told), type(told[0]), type(told[0][1]), type(told[0][1][0])], [list, tuple, list, tuple])
        self.assertEqual([book_of(LINE, 2, "6"), book_of(LINE, 2, "1;1;1;1")], [[(6, [])], [(1, [])] * 4])

    def test_lists_are_new(self):
        told = book_of(LINE, 2, "2;2")
        told[0][1].append(1)
        told.append(1)
        self.assertEqual(book_of(LINE, 2, "2;2"), [(2, []), (2, [])])

    def test_wrong_positions(self):
        self.wrong("book", ("", 0), ("x", 0), ("2,", 2), ("2;", 2), (";2", 0), (",2", 0), ("2,1", 3), ("2, 1 ", 5), ("2,1;2", 3),
                   ("2,1,1>1", 3), ("2,>1", 2), ("2,1<", 4), ("2,1>", 4), ("2,1<1>", 6), ("2,1>1<3", 5), ("2,1<1<3", 5),
                   ("2,1>1>3", 5), ("2 2", 2), ("2|2", 1), ("2-", 1), ("02", 1), ("2,01>1", 3), ("2;;2", 2), ("2,,1>1", 2),
                   ("2:1", 1), ("2,1<1>3;2,1>1 1", 14), ("2\n", 1), ("<1", 0))

    def test_no_book(self):
        self.wrong("book", ("0", None), ("7", None), ("2,0>3", None), ("2,1>2", None), ("2,1>4", None), ("2,1<1>1", None),
                   ("2,7>1", None), ("2;2;2;2;2", None), ("2" + ",1>1" * 7, None), ("2,0<1>3", None), ("100000", None))
        self.assertEqual(book_of(LINE, 2, "2" + ",1>1" * 6), [(2, [(None, 1, 1)] * 6)])


class WebTest(Reading):
    def test_readable(self):
        wanted = Web(Country([(0, 1), (1, 2), (2, 3)]), [[(2, [(None, 2, 1)])], PLAIN])
        for text in ["0-1, 1-2, 2-3 | 2, 1>2 | 2", "2-1,0-1,2-3|2,1>2|2", " 3 - 2,0-1,2-1  |2 ,1>2|  2 "]:
            told = web_of(text)
            self.assertIs(type(told), Web)
            self.says(True, told == wanted)
            self.says(True, web_of(text=text) == wanted)
        self.says(True, web_of("0-1,1-2|1,0<0>2;2,0<2>0") == Web(SHORT, [[(1, [(0, 2, 0)]), (2, [(2, 0, 0)])]]))

    def test_wrong_positions(self):
        self.wrong("web", ("", 0), ("0-1,1-2", 7), ("0-1,1-2 ", 8), ("0-1,1-2|", 8), ("0-1,1-2||2", 8), ("|2", 0), ("0-1,1-2|2|", 10),
                   ("0-1,1-2;2", 7), ("0-1,1-2|2,1", 11), ("0-1,1-2|2,1|2", 11), ("0-1,1-2|2-3", 9), ("0-1,1|2", 5), ("0-1,|2", 4),
                   ("0-1,1-2|x", 8), ("0-1,1-2|2x", 9), ("-|2", 0))

    def test_no_web(self):
        self.wrong("web", ("0-1|2", None), ("0-1,1-2|2|2", None), ("0-1,1-2,2-3|2", None), ("0-1,1-2|0", None), ("0-1,1-2|2,1>1", None),
                   ("0-1,1-2,2-0|2|2|2", None), ("0-1,1-2|2,0<0>2", None), ("0-1,1-2,2-3|2|2;7", None))


class StandTest(Reading):
    def test_readable(self):
        wanted = [(1, 0, 4), (1, 0, 4), (2, 0, 4), (2, 4, 0)]
        for text in ["1:0>4, 1:0>4, 2:0>4, 2:4>0", "2:4>0,1:0>4,2:0>4,1:0>4", "  2 :4 > 0,1: 0>4 ,2:0>4,1:0>4 "]:
            self.assertEqual([stand_of(PLAIN_ROW, text), stand_of(text=text, web=PLAIN_ROW)], [wanted, wanted])
        for text in ["-", " - ", "-   "]:
            self.assertEqual(stand_of(PLAIN_ROW, text), [])

    def test_lists_are_new(self):
        stand_of(PLAIN_ROW, "-").append(1)
        self.assertEqual(stand_of(PLAIN_ROW, "-"), [])

    def test_wrong_positions(self):
        self.wrong("stand", ("", 0), (" ", 1), ("--", 1), ("-1:0>4", 1), ("1:0>4-", 5), ("1:0>4,-", 6), ("1:0>4,", 6), ("1", 1), ("1:", 2),
                   ("1:0", 3), ("1:0>", 4), ("1>0", 1), ("1:0:4", 3), ("1:0>4 2:0>4", 6), ("1:0>4;", 5), (">", 0), ("- ,", 2), ("1::", 2),
                   ("1:0>04", 5), ("in0>4", 0))

    def test_no_stand(self):
        self.wrong("stand", ("1:0>0", None), ("0:0>4", None), ("1:0>3", None), ("1:0>4,1:0>4,1:0>4", None), ("9:0>4", None),
                   ("1:0>4,2:0>999999", None))


class StepsTest(Reading):
    def test_readable(self):
        wanted = [("in", 0, 4), ("on", 1, 0, 4), ("in", 0, 4)]
        for text in ["in 0>4, on 1:0>4, in 0>4", "in0>4,on1:0>4,in0>4", "  in  0 > 4 ,on 1 : 0>4,in 0>4  "]:
            self.assertEqual([steps_of(LINE, text), steps_of(text=text, country=LINE)], [wanted, wanted])
        self.assertEqual([steps_of(LINE, "-"), steps_of(LINE, "  -")], [[], []])
        # Whether or not they can be done.
        self.assertEqual(steps_of(LINE, "on 3:4>0"), [("on", 3, 4, 0)])

    def test_wrong_positions(self):
        self.wrong("steps", ("", 0), ("i", 1), ("o", 1), ("i n0>4", 1), ("o n1:0>4", 1), ("ix", 1), ("ox", 1), ("n0>4", 0), ("in", 2),
                   ("on", 2), ("in ", 3), ("in0", 3), ("in0>", 4), ("in0:0>4", 3), ("on0>4", 3), ("on1:0", 5), ("in0>4,", 6),
                   ("in0>4 in0>4", 6), ("in0>4, o", 8), ("-in0>4", 1), ("in0>4,-", 6), ("In0>4", 0), ("inn0>4", 2), ("in-", 2),
                   ("off", 1), ("in 00>4", 4), ("in0>4.", 5), (" i", 2), ("1:0>4", 0))

    def test_no_steps(self):
        self.wrong("steps", ("in0>0", None), ("in1>4", None), ("on0:0>4", None), ("on1:0>3", None), ("in0>4,in0>5", None),
                   ("in999999>0", None))

    def test_400_and_more(self):
        self.assertEqual(steps_of(LINE, ",".join(["in0>4"] * 400)), [("in", 0, 4)] * 400)
        self.wrong("steps", (",".join(["in0>4"] * 401), None), (",".join(["in0>4"] * 401) + ",", 401 * 6))


class WrongInputsTest(Case):
    def test_in_their_sequence(self):
        country, web = ("country", LINE, InvalidCountry, NO_COUNTRY), ("web", PLAIN_ROW, InvalidWeb, NO_WEB)
        self.refuses(book_of, country, ("yard", 2, InvalidYard, NO_YARD), ("text", None))
        self.refuses(stand_of, web, ("text", None))
        self.refuses(steps_of, country, ("text", None))

    def test_no_strings(self):
        for odd in NO_STRINGS:
            for kind in KINDS:
                with self.subTest(kind=kind, odd=repr(odd)):
                    self.fails(InvalidText, {"position": None}, read, kind, odd)
        self.fails(InvalidText, {"position": None}, country_of, text=None)
        self.fails(InvalidText, {"position": 0}, web_of, text="")


class FactsTest(Case):
    def test_by_leading_on(self):
        chance = random.Random(53)
        texts = {"country": "10-1, 0-10,  123456-0", "book": "3, 1<0>2,2 >0; 20,1<3;2", "web": "0-1,1 -2 | 2, 1>2;3,1<0>2 |2",
                 "stand": "1:0>4,2 :10> 0, 123456:0>1", "steps": "in 0>4, on1:0>4,in10> 3"}
        seen = {}
        for kind in KINDS:
            for _ in range(700):
                text = texts[kind]
                for _ in range(chance.randint(1, 2)):
                    at = chance.randint(0, len(text))
                    more = "".join(chance.choice("0123 ,-;:<>|inox\n") for _ in range(chance.randint(0, 2)))
                    text = text[:at] + more + text[at + chance.randint(0, 3):]
                wanted = slow_position(kind, text)
                try:
                    read(kind, text)
                    told = -1
                except InvalidText as error:
                    told = -1 if error.position is None else error.position
                self.assertEqual(told, wanted, (kind, text))
                seen[kind, wanted < 0, wanted == len(text)] = True
        self.assertEqual(len(seen), 15)


if __name__ == "__main__":
    unittest.main()
