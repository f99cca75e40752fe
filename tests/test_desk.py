import random
import unittest

from helpers import LINE, ODD, ODD_LISTS, Case
from lanekeepers.books import both, either
from lanekeepers.claims import contrary, is_true, paper_of
from lanekeepers.comings import emptied
from lanekeepers.countries import Country
from lanekeepers.desk import Desk
from lanekeepers.doors import joined
from lanekeepers.errors import LaneError, LimitError, MissingError, StateError
from lanekeepers.mends import mended
from lanekeepers.plans import stuck_stand
from lanekeepers.texts import country_text, web_text
from lanekeepers.turns import turned
from lanekeepers.webs import Web
from wrong import PLAIN_ROW

PLAIN = [(2, [])]
ROW = "web w 0-1,1-2,2-3,3-4|2|2|2"
KEPT = Web(LINE, [[(2, [(None, 2, 1)])], [(2, [(None, 3, 1)])], PLAIN])
JAM = [(1, 0, 4), (1, 0, 4), (2, 4, 0), (2, 4, 0)]


def desk_with(*commands):
    desk = Desk()
    desk.do_all(*commands)
    return desk


def told_of(desk):
    """All that can be asked of a desk, but for its papers and what can be done again."""
    things = [(name, desk[name]) for name in desk.names]
    claims = [(label, desk(f"claimed {label}"), desk(f"state {label}")) for label in desk.labels]
    return things, claims, desk.lines()


class ThingsTest(Case):
    def kept(self, wanted, desk, name):
        told = desk[name]
        self.assertIs(type(told), type(wanted))
        self.says(True, told == wanted)
        self.says(True, name in desk)

    def test_nothing_at_first(self):
        desk = Desk()
        self.assertEqual([desk.names, desk.labels, len(desk), desk.lines()], [[], [], 0, []])
        self.assertEqual([desk("names"), desk("states")], ["-", "-"])
        self.says(False, "w" in desk)

    def test_countries_and_webs(self):
        desk = desk_with("country c 3-4,1-2,0-1,2-3", ROW, "web v 0-1,1-2|2,1>2;1")
        self.kept(LINE, desk, "c")
        self.kept(PLAIN_ROW, desk, "w")
        self.kept(Web(Country([(0, 1), (1, 2)]), [[(2, [(None, 2, 1)]), (1, [])]]), desk, "v")
        self.assertEqual([desk.names, len(desk)], [["c", "v", "w"], 3])

    def test_stands(self):
        desk = desk_with(ROW, "stand s w 2:4>0,1:0>4,2:4>0,1:0>4", "stand e w -")
        self.kept(JAM, desk, "s")
        self.kept([], desk, "e")

    def test_land_turned_and_jam(self):
        desk = desk_with(ROW, "book w 1 2,1>2", "land c w", "turned t w", "jam j t")
        self.kept(LINE, desk, "c")
        self.kept(turned(desk["w"]), desk, "t")
        self.kept(stuck_stand(desk["t"]), desk, "j")

    def test_join(self):
        desk = desk_with("web a 0-1,1-2|2,1>2", "web b 0-1,1-3,1-2|3,1<2>0;2", "join c a 2 b 3", "join d b 0 a 0")
        self.kept(joined(desk["a"], 2, desk["b"], 3), desk, "c")
        self.kept(joined(desk["b"], 0, desk["a"], 0), desk, "d")
        # A web may be joined with itself.
        desk.do("join e a 0 a 2")
        self.kept(joined(desk["a"], 0, desk["a"], 2), desk, "e")

    def test_rest(self):
        desk = desk_with("web w 0-1,1-2,2-3,3-4|1|1|1", "stand s w 2:0>4,3:4>0", "rest r w s", "stand t w 1:0>4,2:4>0,3:4>0", "rest q w t",
                         "stand u w 1:0>4", "rest p w u")
        self.kept([(2, 0, 4), (3, 4, 0)], desk, "r")
        self.kept(emptied(desk["w"], desk["t"])[1], desk, "q")
        self.kept([], desk, "p")

    def test_books(self):
        desk = desk_with(ROW)
        desk.do("book w 2 3,1<1>3,2>3;1")
        told = [(3, [(1, 3, 1), (None, 3, 2)]), (1, [])]
        self.kept(Web(LINE, [PLAIN, told, PLAIN]), desk, "w")
        desk.do("either w 2 2,0>1;6")
        more = either(LINE, 2, told, [(2, [(None, 1, 0)]), (6, [])])
        self.kept(Web(LINE, [PLAIN, more, PLAIN]), desk, "w")
        desk.do("both w 2 4,4<3")
        self.kept(Web(LINE, [PLAIN, both(LINE, 2, more, [(4, [(3, None, 4)])]), PLAIN]), desk, "w")
        self.assertEqual(desk.names, ["w"])

    def test_mends(self):
        desk = desk_with(ROW, "place w 2 1", "bound w 1 2")
        self.kept(mended(mended(PLAIN_ROW, [("place", 2, 1)]), [("bound", 1, 2)]), desk, "w")
        self.assertEqual(desk("show w"), "0-1, 1-2, 2-3, 3-4 | 2, 1>2 | 3, 2>1 | 2")

    def test_led(self):
        desk = desk_with(ROW, "stand s w 2:4>0", "led s w in0>4,on2:4>0,on1:0>4,on1:4>0")
        self.kept([(2, 0, 4)], desk, "s")
        self.assertEqual(desk("led s w -"), "-")
        self.kept([(2, 0, 4)], desk, "s")
        self.assertEqual(len(desk), 4)

    def test_drop(self):
        desk = desk_with(ROW, "jam j w", "land c w", "drop w")
        self.assertEqual(desk.names, ["c", "j"])
        self.says(False, "w" in desk)
        # What is kept does not hang on other names.
        self.kept(JAM, desk, "j")
        desk.do("web w 0-1,1-2|3")
        self.assertEqual(desk("show w"), "0-1, 1-2 | 3")

    def test_what_is_kept_does_not_follow(self):
        desk = desk_with(ROW, "turned t w", "land c w", "book w 1 2,1>2")
        self.kept(turned(PLAIN_ROW), desk, "t")

    def test_in_and_names_of_any_kind(self):
        desk = desk_with(ROW, "claim k never w")
        for odd in ODD + ODD_LISTS + ["k", "W", "w ", ("w",), ["w"], b"w"]:
            self.says(False, odd in desk)
        self.assertEqual([desk.names, desk.labels, desk("names")], [["w"], ["k"], "w"])
        # A label may be a name, too.
        desk.do_all("land k w", "claim w can w")
        self.assertEqual([desk.names, desk.labels], [["k", "w"], ["k", "w"]])

    def test_names_that_are_words_of_commands(self):
        words = ["undo", "redo", "names", "states", "state", "claim", "drop", "posts"]
        desk = desk_with(*["web " + word + " 0-1,1-2|2" for word in words])
        for word in words:
            self.assertEqual([desk("posts " + word), desk("show " + word)], ["1", "0-1, 1-2 | 2"])
            self.assertEqual([desk("claim " + word + " can " + word), desk("state " + word)], [word + " false", "false"])
            self.assertEqual(desk("drop " + word), word + " gone")
        self.assertEqual([desk.names, desk.labels, len(desk)], [[], sorted(words), 24])

    def test_lists_are_the_caller_s(self):
        desk = desk_with(ROW, "jam j w", "claim m stuck w j", "claim b barred w 1 3<0>2")
        desk["j"].append(1)
        desk.names.append(1)
        desk.labels.append(1)
        desk.lines().append(1)
        desk.claim_of("m")[2].append(1)
        desk.claim_of("b")[3].append(1)
        self.assertEqual([desk["j"], desk.names, desk.labels], [JAM, ["j", "w"], ["b", "m"]])
        self.assertEqual([len(desk.lines()), desk.claim_of("m")[2], desk.claim_of("b")[3]], [4, JAM, [(0, 2, 3)]])
        self.assertEqual([desk("state m"), desk("stuck w j")], ["true", "yes"])

    def test_not_iterated_over(self):
        with self.assertRaises(TypeError):
            list(desk_with(ROW))


class AnswersTest(Case):
    def setUp(self):
        self.desk = desk_with(ROW, "web k 0-1,1-2,2-3,3-4|2,1>2|2,1>3|2", "web one 0-1,1-2|2", "jam j w", "stand s w 3:0>4,1:0>4",
                              "stand e w -", "land c w", "web m 0-1,1-2|2,1<0")

    def told(self, *pairs):
        lines = self.desk.lines()
        for command, answer in pairs:
            self.assertEqual([self.desk(command), self.desk.do(command), self.desk.do(command=command)], [answer] * 3)
        # None of these is a deed.
        self.assertEqual(self.desk.lines(), lines)

    def test_names_and_show(self):
        self.told(("names", "c e j k m one s w"), ("show c", "0-1, 1-2, 2-3, 3-4"), ("show k", "0-1, 1-2, 2-3, 3-4 | 2, 1>2 | 2, 1>3 | 2"),
                  ("show j", "1:0>4, 1:0>4, 2:4>0, 2:4>0"), ("show s", "1:0>4, 3:0>4"), ("show e", "-"))

    def test_posts_and_sides(self):
        self.told(("posts w", "-"), ("posts k", "3"), ("posts one", "1"), ("sides w", "1>2,2>1,2>3,3>2"), ("sides k", "2>1,3>2"),
                  ("sides one", "-"), ("nearest w", "1>2,2>1"), ("nearest k", "-"))
        self.desk.do_all("book k 2 2,1>1,1>3", "book k 3 2,1>2")
        self.told(("posts k", "1,2,3"))

    def test_numbers(self):
        self.told(("fewest w", "4"), ("fewest k", "none"), ("fewest one", "none"), ("lanes w s", "4"), ("lanes w e", "0"), ("lanes w j", "10"))

    def test_kinds(self):
        self.told(("kind w 0", "bad"), ("kind k 4", "own"), ("kind one 2", "own"))
        self.desk.do("book one 1 2,1>2")
        self.told(("kind one 2", "clear"), ("kind one 0", "own"))

    def test_yes_or_no(self):
        self.told(("all w", "no"), ("all one", "yes"), ("stuck w j", "yes"), ("stuck w s", "no"), ("stuck w e", "no"), ("sticks w 2 2", "yes"),
                  ("sticks w 1 9", "no"), ("sticks w 99 2", "yes"), ("sticks w 0 0", "no"), ("sticks one 99 99", "no"))
        # So many eastward, so many westward.
        self.desk.do("web x 0-1,1-2,2-3|2|1")
        self.told(("sticks x 2 1", "yes"), ("sticks x 1 2", "no"))

    def test_refused(self):
        self.told(("refused w j", "1:0>4, 2:4>0"), ("refused w s", "-"), ("refused w e", "-"))

    def test_way(self):
        self.told(("way c 0 4", "0,1,2,3,4"), ("way c 3 1", "3,2,1"), ("way c 2 2", "2"))

    def test_same(self):
        self.desk.do_all("turned t w", "land d k", "stand f k -", "stand g w 1:0>4,3:0>4")
        self.told(("same w t", "yes"), ("same w k", "no"), ("same c d", "yes"), ("same e f", "yes"), ("same s g", "yes"), ("same s j", "no"),
                  ("same w w", "yes"))


class StatesTest(Case):
    def test_claims(self):
        desk = desk_with(ROW)
        for words, state in [("never w", "false"), ("can w", "true"), ("allcome w", "false"), ("notall w", "true"), ("plugged w 1 2", "true"),
                             ("free w 1 2", "false"), ("few w 4", "true"), ("more w 4", "false"), ("stands w 1 2<0>2", "true"),
                             ("barred w 1 1<0>2,1<2>0", "false"), ("stands w 1 -", "true"), ("few w 0", "false")]:
            self.assertEqual(desk(f"claim k {words}"), f"k {state}")
            self.assertEqual([desk("state k"), desk("states"), desk("claimed k")], [state, f"k {state}", words])
            claim = desk.claim_of("k")
            self.assertEqual(claim[0], words.split()[0])
            self.says(state == "true", is_true(claim))
            self.assertEqual(desk.claim_of(label="k"), claim)
            self.assertEqual(desk("forget k"), "-")
        self.assertEqual([desk.labels, desk("states")], [[], "-"])

    def test_claims_of_stands(self):
        desk = desk_with(ROW, "jam j w", "stand s w 1:0>4")
        self.assertEqual(desk.do_all("claim a moves w j", "claim b stuck w j", "claim c moves w s", "claim d stuck w s"),
                         ["a false", "b true", "c true", "d false"])
        self.assertEqual(desk("states"), "a false, b true, c true, d false")
        self.assertEqual(desk.claim_of("a"), ("moves", PLAIN_ROW, JAM))

    def test_tuples_of_claims(self):
        desk = desk_with(ROW, "claim a plugged w 1 2", "claim b few w 4", "claim c barred w 2 2<1>3,1<3>1")
        self.assertEqual([desk.claim_of(label) for label in "abc"],
                         [("plugged", PLAIN_ROW, 1, 2), ("few", PLAIN_ROW, 4), ("barred", PLAIN_ROW, 2, [(1, 3, 2), (3, 1, 1)])])

    def test_changes_are_told_sorted(self):
        desk = desk_with(ROW, "claim z never w", "claim b free w 1 2", "claim a few w 9", "claim y free w 2 3", "claim c stands w 1 1<0>2")
        self.assertEqual(desk("book w 1 2,1>2"), "b true")
        self.assertEqual(desk("book w 2 2,1>3"), "a false, y true, z true")
        self.assertEqual(desk("book w 1 2,1>2"), "-")
        self.assertEqual(desk("drop w"), "a gone, b gone, c gone, y gone, z gone")
        self.assertEqual(desk("country w 0-1,1-2"), "-")
        self.assertEqual(desk("drop w"), "-")
        self.assertEqual(desk(ROW), "a true, b false, c true, y false, z false")

    def test_gone_and_come_again(self):
        desk = desk_with(ROW, "jam j w", "claim m stuck w j", "claim p plugged w 2 3", "claim f few w 4", "claim s stands w 2 2<1>3")
        # Of a web with other yards there is no such side, no such load, no such stand; but a least sum.
        self.assertEqual(desk.do_all("drop w", "web w 0-1,1-2,2-3|2|2"), ["f gone, m gone, p gone, s gone", "f true, s true"])
        self.assertEqual(desk.do_all("drop w", ROW), ["f gone, s gone", "f true, m true, p true, s true"])
        # Where the web is not bounded, its "few" is gone; the stand is one of another web no more.
        self.assertEqual(desk("book w 1 2;1"), "f gone")
        self.assertEqual([desk.claim_of("f"), desk("state f"), desk("claimed f")], [None, "gone", "few w 4"])
        self.assertEqual(desk("book w 1 1"), "f true, m gone")
        self.assertEqual(desk("book w 1 2"), "m true")

    def test_gone_by_the_kind(self):
        desk = desk_with(ROW, "jam j w", "claim m stuck w j", "drop j", "land j w")
        self.assertEqual([desk("state m"), desk.claim_of("m")], ["gone", None])
        self.assertEqual(desk.do_all("drop j", "stand j w -", "drop j", "stand j w 1:0>4"), ["-", "-", "-", "m false"])
        # The empty stand makes no claim.
        self.assertEqual(desk.do_all("led j w on1:0>4,on2:0>4,on3:0>4", "led j w in0>4"), ["m gone", "m false"])

    def test_noted_again_under_the_same_label(self):
        desk = desk_with(ROW, "claim k never w", "forget k")
        self.assertEqual(desk("claim k never w"), "k false")
        self.assertEqual(desk.do_all("forget k", "claim k can w"), ["-", "k true"])

    def test_a_name_that_is_the_claim_s_word(self):
        desk = desk_with("web never 0-1,1-2|2", "claim k never never", "web can 0-1,1-2,2-3|2|2", "claim can can can")
        self.assertEqual(desk("states"), "can true, k true")
        self.assertEqual(desk.do_all("drop never", "drop can", "undo"), ["k gone", "can gone", "drop can"])
        self.assertEqual(desk("states"), "can true, k gone")


class UndoTest(Case):
    def test_undo_and_redo(self):
        desk = desk_with(ROW, "claim k never w", "book w 1 2,1>2", "book w 2 2,1>3", "drop w")
        told = [told_of(desk)]
        lines = desk.lines()
        for line in lines[::-1]:
            self.assertEqual(desk("undo"), line)
            told.append(told_of(desk))
            self.assertEqual(len(desk), len(desk.lines()))
        self.assertEqual(told[-1], ([], [], []))
        for line in lines:
            self.assertEqual(told.pop(), told_of(desk))
            self.assertEqual(desk("redo"), line)
        self.assertEqual(told, [told_of(desk)])

    def test_a_deed_between(self):
        desk = desk_with(ROW, "drop w", "undo", "claim k can w", "undo")
        self.assertEqual(desk("redo"), "claim k can w")
        desk.do_all("undo", "names", "posts w")
        # What is no deed does not come between.
        self.assertEqual(desk("redo"), "claim k can w")
        desk.do_all("undo", "jam j w")
        with self.assertRaises(StateError):
            desk("redo")
        self.assertEqual(desk.names, ["j", "w"])

    def test_a_failing_deed_does_not_come_between(self):
        desk = desk_with(ROW, "drop w", "undo")
        for odd in ["drop x", "land w w", "no command", "claim k few w 41"]:
            with self.assertRaises((LaneError, MissingError, StateError, LimitError)):
                desk(odd)
        self.assertEqual(desk("redo"), "drop w")

    def test_forgotten_labels_come_again(self):
        desk = desk_with(ROW, "claim k never w", "forget k", "undo")
        self.assertEqual([desk.labels, desk("state k")], [["k"], "false"])

    def test_several_at_once(self):
        desk = desk_with(ROW, "land c w", "land d w", "undo", "undo", "redo")
        self.assertEqual([desk.names, len(desk), desk("redo"), desk.names], [["c", "w"], 2, "land d w", ["c", "d", "w"]])


class ModelTest(Case):
    """Random commands, against what follows of the lines and of what is kept."""

    WORDS = {
        "NEW": "abcde", "NAME": "abcde", "WEB": "abcde", "STAND": "abcde", "LABEL": "pqr", "YARD": "1123", "TARGET": "1230",
        "GATE": "0342", "LANES": ["0-1,1-2,2-3,3-4", "0-1,1-2", "0-1"], "MANY": "0469",
        "TEXT": ["0-1,1-2,2-3,3-4|2|2|2", "0-1,1-2,2-3,3-4|2,1>2|2,1>3|2", "0-1,1-2|2,1>2", "0-1,1-2,2-3|2|1;2,1>1"],
        "BOOK": ["2", "2,1>2", "2,1>3", "3,1>2,2>1", "1", "2;1", "2,1<0>2"], "CARTS": ["-", "1:0>4", "1:0>4,2:4>0", "2:4>0,2:4>0", "1:0>2"],
        "STEPS": ["-", "in0>4", "on1:0>4", "in4>0"], "LOAD": ["-", "1<0>2", "2<0>2", "1<0>2,1<2>0", "1<2>0,1<0>2"],
    }
    PATTERNS = """country NEW LANES|web NEW TEXT|web NEW TEXT|stand NEW WEB CARTS|stand NEW WEB CARTS|land NEW WEB|turned NEW WEB
join NEW WEB GATE WEB GATE|jam NEW WEB|jam NEW WEB|rest NEW WEB STAND|book WEB YARD BOOK|book WEB YARD BOOK|either WEB YARD BOOK
both WEB YARD BOOK|place WEB YARD TARGET|bound WEB YARD TARGET|led STAND WEB STEPS|drop NAME|claim LABEL never WEB|claim LABEL can WEB
claim LABEL allcome WEB|claim LABEL notall WEB|claim LABEL plugged WEB YARD TARGET|claim LABEL free WEB YARD TARGET
claim LABEL few WEB MANY|claim LABEL more WEB MANY|claim LABEL stands WEB YARD LOAD|claim LABEL barred WEB YARD LOAD
claim LABEL moves WEB STAND|claim LABEL stuck WEB STAND|forget LABEL|undo|undo|redo|redo""".replace("\n", "|").split("|")

    def states_of(self, desk):
        told = {}
        for label in desk.labels:
            claim = desk.claim_of(label)
            told[label] = "gone" if claim is None else "true" if is_true(claim) else "false"
            self.assertEqual(desk(f"state {label}"), told[label])
        return told

    def test_random_commands(self):
        chance = random.Random(58)
        words, states = set(), set()
        for _ in range(40):
            desk, undone = desk_with("web a 0-1,1-2,2-3,3-4|2|2|2"), []
            for _ in range(150):
                pattern = chance.choice(self.PATTERNS)
                command = " ".join(chance.choice(self.WORDS[word]) if word in self.WORDS else word for word in pattern.split())
                before, ahead, redo = told_of(desk), self.states_of(desk), list(undone)
                try:
                    answer = desk(command)
                except (LaneError, MissingError, StateError, LimitError):
                    self.assertEqual(told_of(desk), before)
                    continue
                words.add(pattern)
                behind = self.states_of(desk)
                states |= set(behind.values())
                if command == "undo":
                    self.assertEqual([answer, desk.lines()], [before[2][-1], before[2][:-1]])
                    undone.append(answer)
                elif command == "redo":
                    self.assertEqual([answer, desk.lines()], [redo[-1], before[2] + [redo[-1]]])
                    undone.pop()
                else:
                    self.assertEqual(desk.lines(), before[2] + [command])
                    changed = [f"{label} {behind[label]}" for label in sorted(behind) if ahead.get(label) != behind[label]]
                    self.assertEqual(answer, ", ".join(changed) or "-")
                    undone = []
                # The same lines lead to the same desk.
                self.assertEqual(told_of(Desk.again(desk.lines())), told_of(desk))
                for label in desk.labels:
                    self.papers(desk, label)
        self.assertEqual([words, states], [set(self.PATTERNS), {"true", "false", "gone"}])

    def papers(self, desk, label):
        claim = desk.claim_of(label)
        if claim is not None:
            paper = paper_of(claim) if is_true(claim) else paper_of(contrary(claim))
            if paper is not None:
                self.assertIs(desk.attach(label, paper), None)
                self.says(True, desk.fits(label))
        else:
            self.says(False, desk.fits(label))

    def test_texts_of_what_is_kept(self):
        desk = desk_with(ROW, "land c w")
        self.assertEqual([desk("show w"), desk("show c")], [web_text(desk["w"]), country_text(desk["c"])])


if __name__ == "__main__":
    unittest.main()
