import itertools
import unittest

from helpers import ODD, ODD_LISTS, Case
from lanekeepers.commands import is_command, is_deed, is_name

# Each command of the tables, with parts as they are told.
DEEDS = """country NEW LANES|web NEW TEXT|stand NEW WEB CARTS|land NEW WEB|turned NEW WEB|join NEW WEB GATE OTHER DOOR|jam NEW WEB
rest NEW WEB STAND|book WEB YARD BOOK|either WEB YARD BOOK|both WEB YARD BOOK|place WEB YARD TARGET|bound WEB YARD TARGET
led STAND WEB STEPS|drop NAME|claim LABEL never WEB|claim LABEL can WEB|claim LABEL allcome WEB|claim LABEL notall WEB
claim LABEL plugged WEB YARD TARGET|claim LABEL free WEB YARD TARGET|claim LABEL few WEB MANY|claim LABEL more WEB MANY
claim LABEL stands WEB YARD LOAD|claim LABEL barred WEB YARD LOAD|claim LABEL moves WEB STAND|claim LABEL stuck WEB STAND
forget LABEL""".replace("\n", "|").split("|")
OTHERS = """undo|redo|state LABEL|states|claimed LABEL|names|show NAME|posts WEB|sides WEB|nearest WEB|fewest WEB|kind WEB GATE|all WEB
stuck WEB STAND|sticks WEB MANY MANY|refused WEB STAND|lanes WEB STAND|way COUNTRY START END|same NAME OTHER""".replace("\n", "|").split("|")

NAMES = ["w", "abcdefgh", "z9", "a1234567", "never", "undo"]
NO_NAMES = ["", "W", "1", "9a", "a_b", "a-b", "abcdefghi", "a.", "aB", "-", "w\n", "\n", "'w'"]
COUNTS = ["0", "1", "9", "10", "99"]
NO_COUNTS = ["", "00", "01", "100", "-1", "+1", "a", "1a", "1\n", "1.", "0x"]
GOOD, WRONG = {}, {}
for kind in ["NEW", "LABEL", "NAME", "COUNTRY", "WEB", "STAND", "OTHER"]:
    GOOD[kind], WRONG[kind] = NAMES, NO_NAMES
for kind in ["YARD", "TARGET", "GATE", "DOOR", "START", "END", "MANY"]:
    GOOD[kind], WRONG[kind] = COUNTS, NO_COUNTS
# A text of each kind in three pieces, the second one a numeral that may be longer.
LONG = {"LANES": ("", "10", "-1" + ",0-1" * 29), "TEXT": ("0-1" + ",0-1" * 28 + "|", "1000", ""), "BOOK": ("", "1000", ",1>1" * 29),
        "CARTS": ("", "10", ":0>4" + ",1:0>4" * 19), "STEPS": ("in", "10", ">4" + ",in0>4" * 19),
        "LOAD": ("", "10", "<0>2" + ",1<0>2" * 19)}
GOOD["LANES"], WRONG["LANES"] = ["0-1", "0-1,1-2", "2-1,1-1", "123456-0"], ["", "-", "0-", "0-1,", "01-2", "0-1|2", "1234567-0", "0>1"]
GOOD["TEXT"] = ["0-1|2", "0-1,1-2|2,1>2;3|9,1<2,1<2>3"]
WRONG["TEXT"] = ["", "0-1", "0-1|", "|2", "0-1|2|", "0-1|2,1", "0-1|2;", "-|2"]
GOOD["BOOK"], WRONG["BOOK"] = ["2", "0;7", "2,1>2,9<8;3,1<2>3"], ["", "-", "2,", "2;", "2,1", "2|2", "2,1>2<3", "02"]
GOOD["CARTS"], WRONG["CARTS"] = ["-", "1:0>4", "1:0>4,999999:0>0"], ["", "--", "1:0", "1:0>4,", "-,1:0>4", "1>0", "1:0>04"]
GOOD["STEPS"] = ["-", "in0>4", "on1:0>4", "in0>4,on1:0>4,in999999>0"]
WRONG["STEPS"] = ["", "--", "in", "in0>4,", "on0>4", "in1:0>4", "1:0>4", "in0>4;on1:0>4", "In0>4"]
GOOD["LOAD"] = ["-", "2<0>3", "0<0>0", "1<0>2,2<2>0", "1<2>0,1<2>0"]
WRONG["LOAD"] = ["", "--", "2", "2<0", "2>3", "2<0>", "2<0>3,", "2<0>3,1>2", "2>3<0", "2<0>3;1<0>3", "02<0>3", "-2<0>3", "2<0>3,-"]


def parts_of(pattern):
    return [GOOD.get(word, [word]) for word in pattern.split(" ")]


class NameTest(Case):
    def test_names(self):
        for name in NAMES:
            self.says(True, is_name(name))
            self.says(True, is_name(value=name))
        for odd in NO_NAMES + [odd for odd in ODD if odd != "1"] + ODD_LISTS + [["w"], ("w",), b"w", "w w", " w", "w "]:
            self.says(False, is_name(odd))

    def test_lengths(self):
        for many in range(12):
            self.says(1 <= many <= 8, is_name("a" * many))
            self.says(many <= 7, is_name("b" + "0" * many))


class CommandTest(Case):
    def told(self, pattern, command, wanted):
        with self.subTest(command=command):
            self.says(wanted, is_command(command))
            self.says(wanted, is_command(value=command))
            self.says(wanted and pattern in DEEDS, is_deed(command))
            self.says(wanted and pattern in DEEDS, is_deed(value=command))

    def test_each_command(self):
        for pattern in DEEDS + OTHERS:
            for parts in itertools.islice(itertools.product(*parts_of(pattern)), 300):
                self.says(True, is_command(" ".join(parts)))
            for at, choice in enumerate(parts_of(pattern)):
                for part in choice:
                    words = [other[0] for other in parts_of(pattern)]
                    self.told(pattern, " ".join(words[:at] + [part] + words[at + 1:]), True)

    def test_each_part_wrong(self):
        for pattern in DEEDS + OTHERS:
            words, kinds = [other[0] for other in parts_of(pattern)], pattern.split(" ")
            for at, kind in enumerate(kinds):
                for part in WRONG.get(kind, [kind.upper(), kind + "s ", "", kind[:-1]]):
                    self.told(pattern, " ".join(words[:at] + [part] + words[at + 1:]), False)

    def test_a_part_too_few_or_too_many(self):
        for pattern in DEEDS + OTHERS:
            words = [other[0] for other in parts_of(pattern)]
            for part in ["w", "1", "-", "2", "never"]:
                self.told(pattern, " ".join(words + [part]), False)
            for at in range(len(words)):
                self.told(pattern, " ".join(words[:at] + words[at + 1:]), False)

    def test_blanks(self):
        for pattern in DEEDS + OTHERS:
            words = [other[0] for other in parts_of(pattern)]
            text = " ".join(words)
            for odd in [text + " ", " " + text, "\n" + text, text + "\n", text.upper()]:
                self.told(pattern, odd, False)
            for at in range(1, len(words)):
                self.told(pattern, " ".join(words[:at]) + "  " + " ".join(words[at:]), False)
                self.told(pattern, " ".join(words[:at]) + "\n" + " ".join(words[at:]), False)

    def test_blanks_within_texts(self):
        for command in ["country c 0-1, 1-2", "web w 0-1,1-2 | 2", "book w 1 2, 1>2", "stand s w 1:0>4, 1:0>4", "led s w in 0>4",
                        "led s w on 1:0>4", "claim k stands w 1 2 <0>3"]:
            self.told("", command, False)

    def test_texts_of_120_and_more(self):
        tried = 0
        for pattern in DEEDS:
            words, kind = [other[0] for other in parts_of(pattern)][:-1], pattern.split(" ")[-1]
            if kind in LONG:
                start, numeral, end = LONG[kind]
                self.assertEqual(len(start + numeral + end), 120)
                self.told(pattern, " ".join(words + [start + numeral + end]), True)
                self.told(pattern, " ".join(words + [start + numeral[:-1] + end]), True)
                self.told(pattern, " ".join(words + [start + numeral + "0" + end]), False)
                tried += 1
        self.assertEqual(tried, 9)

    def test_no_commands(self):
        for odd in [odd for odd in ODD] + ODD_LISTS + [["undo"], ("undo",), b"undo", "", " ", "claim", "claim k", "claim k posts w", "Undo",
                                                       "undo w", "posts", "claims", "stuck k w s", "never w", "claim never w",
                                                       "claim k undo", "web", "NEW", "show NAME"]:
            self.says(False, is_command(odd))
            self.says(False, is_deed(odd))


if __name__ == "__main__":
    unittest.main()
