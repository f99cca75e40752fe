import unittest

from helpers import ODD, ODD_LISTS, Case
from lanekeepers.desk import Desk, Trial, tried
from lanekeepers.errors import CommandFailed, InvalidClaim, InvalidLines, InvalidPaper, NameTaken, NothingToRedo, StepFails, UnknownLabel
from lanekeepers.errors import UnknownName

ROW = "web w 0-1,1-2,2-3,3-4|2|2|2"
KEPT = "web w 0-1,1-2,2-3,3-4|2,1>2|2,1>3|2"


def desk_with(*commands):
    desk = Desk()
    desk.do_all(*commands)
    return desk


def told_of(desk):
    """All of the desk: what is kept and noted, papers that fit, deeds, what can be done again."""
    told = [desk.names, [desk[name] for name in desk.names], desk("states"), [desk("claimed " + label) for label in desk.labels],
            [desk.fits(label) for label in desk.labels], desk.lines(), len(desk)]
    again = desk.copy()
    try:
        while True:
            told.append(again("redo"))
    except NothingToRedo:
        return told


class DoAllTest(Case):
    def test_answers(self):
        desk = Desk()
        self.assertEqual(desk.do_all(), [])
        told = desk.do_all(ROW, "claim k never w", "undo", "names")
        self.assertEqual(told, ["-", "k false", "claim k never w", "w"])
        self.assertEqual([desk.labels, len(desk)], [[], 1])

    def test_none_has_an_effect(self):
        desk = desk_with(ROW, "claim k never w", "drop w", "undo")
        before = told_of(desk)
        for commands, position, cause in [(["land c w", "drop w", "posts w"], 2, UnknownName), (["undo", "undo", "land w w"], 2, UnknownName),
                                          (["land w w"], 0, NameTaken), (["jam j w", "led j w on1:0>4"], 1, StepFails),
                                          (["forget k", "claim k few w 41", "drop w"], 1, InvalidClaim),
                                          (["book w 1 2,1>2", "redo"], 1, NothingToRedo)]:
            for call in [desk.do_all, desk.attempt]:
                with self.assertRaises(CommandFailed) as caught:
                    call(*commands)
                self.assertIs(type(caught.exception), CommandFailed)
                self.assertEqual(caught.exception.position, position)
                self.assertIs(type(caught.exception.__cause__), cause)
                self.assertEqual(told_of(desk), before)
        self.assertEqual(desk("redo"), "drop w")

    def test_attempt(self):
        desk = desk_with(ROW, "claim k never w", "drop w", "undo")
        before = told_of(desk)
        self.assertEqual(desk.attempt("redo", "state k", "undo", "book w 1 2,1>2", "book w 2 2,1>3", "names"),
                         ["drop w", "gone", "drop w", "-", "k true", "w"])
        self.assertEqual([told_of(desk), desk.attempt()], [before, []])


class PapersTest(Case):
    def test_of_the_claim_or_of_its_contrary(self):
        desk = desk_with(ROW, "claim k never w")
        self.says(False, desk.fits("k"))
        self.assertIs(desk.attach("k", ((2, 1), (1, 2))), None)
        self.says(True, desk.fits("k"))
        self.says(True, desk.fits(label="k"))
        # No deed.
        self.assertEqual([len(desk), desk.lines()], [2, [ROW, "claim k never w"]])
        for odd in ODD + ODD_LISTS + [3, [(1, 2), (2, 1)], ((1, 2), (2, 3))]:
            self.fails(InvalidPaper, {"value": odd}, desk.attach, "k", odd)
            self.fails(InvalidPaper, {"value": odd}, desk.attach, paper=odd, label="k")
        self.says(True, desk.fits("k"))
        desk.do_all("book w 1 2,1>2", "book w 2 2,1>3")
        self.says(False, desk.fits("k"))
        self.assertIs(desk.attach(paper=3, label="k"), None)
        self.says(True, desk.fits("k"))
        # In the place of the one that was kept.
        desk.do_all("undo", "undo")
        self.says(False, desk.fits("k"))

    def test_still_a_paper_of_what_it_was_kept_for(self):
        desk = desk_with(KEPT, "claim k never w", "claim p plugged w 2 1")
        desk.attach("k", 3)
        desk.attach("p", ([(3, 1, 2)], 3))
        desk.do_all("book w 3 2,1>2")
        self.says(True, desk.fits("k"))
        desk.do("book w 1 2")
        self.assertEqual([desk.fits("k"), desk.fits("p")], [False, True])
        desk.do("book w 2 3")
        self.assertEqual([desk.fits("k"), desk.fits("p")], [False, False])
        desk.do_all("undo", "undo")
        self.assertEqual([desk.fits("k"), desk.fits("p")], [True, True])

    def test_gone(self):
        desk = desk_with(ROW, "claim k never w", "claim f few w 4")
        desk.attach("k", ((1, 2), (2, 1)))
        desk.do("drop w")
        self.says(False, desk.fits("k"))
        for odd in [((1, 2), (2, 1)), 3, None]:
            self.fails(InvalidPaper, {"value": odd}, desk.attach, "k", odd)
        desk.do(ROW)
        self.says(True, desk.fits("k"))
        desk.do("book w 1 2;2")
        self.fails(InvalidPaper, {"value": []}, desk.attach, "f", [])
        self.assertEqual(desk("state f"), "gone")

    def test_forgotten_and_noted_again(self):
        desk = desk_with(ROW, "land c w", "claim k never w", "claim l never w")
        desk.attach("k", ((1, 2), (2, 1)))
        desk.do("forget k")
        self.fails(UnknownLabel, {"value": "k"}, desk.fits, "k")
        self.fails(UnknownLabel, {"value": "k"}, desk.attach, "k", ((1, 2), (2, 1)))
        desk.do("claim k never w")
        self.says(True, desk.fits("k"))
        # Other words: not even those of the contrary, or of a like web, will do.
        desk.do("turned v w")
        for words in ["can w", "never v"]:
            desk.do_all("forget k", "claim k " + words)
            self.says(False, desk.fits("k"))
        desk.do_all("forget k", "claim k never w")
        self.says(True, desk.fits("k"))
        self.says(False, desk.fits("l"))

    def test_deeds_that_are_taken_back(self):
        desk = desk_with(ROW, "claim k never w")
        desk.attach("k", ((1, 2), (2, 1)))
        desk.do_all("undo", "undo", "redo")
        self.assertEqual(desk.labels, [])
        desk.do("redo")
        self.says(True, desk.fits("k"))
        desk.do_all("undo", "claim k never w")
        self.says(True, desk.fits("k"))

    def test_a_copy_is_kept(self):
        desk = desk_with(KEPT, "claim k free w 1 2", "claim j can w")
        paper = [[(0, 2, 1)]]
        desk.attach("k", paper)
        paper[0].append(1)
        paper.append(1)
        self.says(True, desk.fits("k"))

    def test_a_claim_without_papers(self):
        desk = desk_with(ROW, "jam j w", "claim m moves w j", "claim s stuck w j")
        for label in "ms":
            for odd in [("on", 1, 0, 4), ("on", 2, 4, 0), None, []]:
                self.fails(InvalidPaper, {"value": odd}, desk.attach, label, odd)
        desk.do_all("drop j", "stand j w 1:0>4")
        desk.attach("m", ("on", 1, 0, 4))
        # Of the contrary.
        desk.attach("s", ("on", 1, 0, 4))
        self.assertEqual([desk("states"), desk.fits("m"), desk.fits("s")], ["m true, s false", True, True])
        desk.do("led j w in0>4")
        self.assertEqual([desk.fits("m"), desk.fits("s")], [True, True])
        desk.do("led j w on1:0>4,on1:0>4")
        self.assertEqual([desk.fits("m"), desk.fits("s")], [False, False])

    def test_each_kind(self):
        desk = desk_with(ROW, "claim a allcome w", "claim f few w 4", "claim m more w 3", "claim s stands w 1 2<0>2", "claim b barred w 1 2<0>2")
        script = [("in", 0, 4), ("in", 0, 4), ("in", 4, 0), ("on", 3, 4, 0), ("in", 4, 0), ("on", 3, 4, 0)]
        sums = [(6, (1, 2), (3, 2)), (4, (1, 2), (2, 1)), (4, (2, 3), (3, 2))]
        for label, paper in [("a", ((1, 2), (3, 2))), ("f", script), ("m", tuple(sums)), ("s", 0), ("b", 0)]:
            desk.attach(label, paper)
            self.says(True, desk.fits(label))
        self.fails(InvalidPaper, {"value": False}, desk.attach, "s", False)


class CopiesTest(Case):
    def full_desk(self):
        desk = desk_with(ROW, "claim k never w", "jam j w", "land c w", "undo")
        desk.attach("k", ((1, 2), (2, 1)))
        return desk

    def test_copy(self):
        desk = self.full_desk()
        other = desk.copy()
        self.assertIs(type(other), Desk)
        before = told_of(desk)
        self.assertEqual(told_of(other), before)
        self.assertEqual(other("redo"), "land c w")
        other.do_all("book w 1 2,1>2", "forget k", "drop j")
        self.assertEqual(told_of(desk), before)
        again, before = desk.copy(), told_of(other)
        desk.do_all("undo", "undo", "claim m can w")
        desk.attach("m", ((1, 2), (2, 1)))
        self.assertEqual(told_of(other), before)
        self.assertEqual(told_of(again)[4], [True])

    def test_papers_of_copies_are_their_own(self):
        desk = self.full_desk()
        other = desk.copy()
        other.do_all("book w 1 2,1>2", "book w 2 2,1>3")
        other.attach("k", 3)
        self.assertEqual([desk.fits("k"), other.fits("k")], [True, True])
        other.do_all("undo", "undo")
        self.assertEqual([desk.fits("k"), other.fits("k")], [True, False])

    def test_again(self):
        desk = self.full_desk()
        for lines in [desk.lines(), tuple(desk.lines())]:
            for other in [Desk.again(lines), Desk.again(lines=lines)]:
                self.assertIs(type(other), Desk)
                self.assertEqual([other.names, other.lines(), other("states")], [desk.names, desk.lines(), desk("states")])
                self.assertEqual([other["w"], other["j"]], [desk["w"], desk["j"]])
                # Neither papers nor what could be done again.
                self.says(False, other.fits("k"))
                self.fails(NothingToRedo, {}, other, "redo")
        self.assertEqual([len(Desk.again([])), Desk.again(()).names], [0, []])

    def test_wrong_lines(self):
        for odd in [odd for odd in ODD] + [ROW, {0: ROW}, Desk()]:
            self.fails(InvalidLines, {"position": None}, Desk.again, odd)
            self.fails(InvalidLines, {"position": None}, Desk.again, lines=odd)
        for lines, position in [(["undo"], 0), ([ROW, "names"], 1), ([ROW, "land c w", None, "x"], 2), ((ROW, ["drop w"]), 1), ([ROW + " "], 0),
                                ([""], 0), ([ROW, "posts w", "drop y"], 1), (["drop y", "states"], 1), ([True], 0)]:
            self.fails(InvalidLines, {"position": position}, Desk.again, lines)

    def test_lines_that_fail(self):
        for lines, position, cause in [(["drop y"], 0, UnknownName), ([ROW, "land c w", "land c w"], 2, NameTaken),
                                       ([ROW, "claim k few w 41"], 1, InvalidClaim)]:
            with self.assertRaises(CommandFailed) as caught:
                Desk.again(lines)
            self.assertEqual(caught.exception.position, position)
            self.assertIs(type(caught.exception.__cause__), cause)


class TrialTest(Case):
    def setUp(self):
        self.desk = desk_with(ROW, "claim k never w", "jam j w", "land c w", "undo")
        self.desk.attach("k", ((1, 2), (2, 1)))
        self.before = told_of(self.desk)

    def change(self, desk):
        desk.do_all("book w 1 2,1>2", "book w 2 2,1>3", "drop j", "claim m can w", "undo")
        desk.attach("k", 3)
        return desk("posts w")

    def test_behind_a_block(self):
        with Trial(self.desk) as held:
            self.assertIs(held, self.desk)
            self.assertEqual(self.change(held), "3")
            self.assertEqual([self.desk.names, self.desk.fits("k")], [["w"], True])
        self.assertEqual(told_of(self.desk), self.before)
        with Trial(desk=self.desk):
            pass
        self.assertEqual(told_of(self.desk), self.before)

    def test_an_error_goes_on(self):
        for error in [KeyError("x"), ValueError(), UnknownName("y")]:
            with self.assertRaises(type(error)) as caught:
                with Trial(self.desk) as held:
                    self.change(held)
                    raise error
            self.assertIs(caught.exception, error)
            self.assertEqual(told_of(self.desk), self.before)
        with self.assertRaises(UnknownName):
            with Trial(self.desk) as held:
                held.do("drop j")
                held.do("drop j")
        self.assertEqual(told_of(self.desk), self.before)

    def test_one_trial_for_several_blocks(self):
        trial = Trial(self.desk)
        # What is so ahead of the block counts, not what was so when the Trial was made.
        self.desk.do("land d w")
        before = told_of(self.desk)
        with trial as held:
            self.change(held)
        self.assertEqual(told_of(self.desk), before)
        self.desk.do("drop d")
        before = told_of(self.desk)
        with trial as held:
            self.change(held)
        self.assertEqual(told_of(self.desk), before)

    def test_blocks_within_blocks(self):
        with Trial(self.desk) as held:
            held.do("land d w")
            inner = told_of(held)
            with Trial(held) as again:
                self.change(again)
            self.assertEqual(told_of(held), inner)
        self.assertEqual(told_of(self.desk), self.before)

    def test_tried(self):
        self.assertEqual(tried(self.desk, self.change), "3")
        self.assertEqual(told_of(self.desk), self.before)
        self.assertEqual(tried(action=lambda desk: (desk.do("drop w"), desk.names), desk=self.desk), ("k gone", ["j"]))
        self.assertEqual(told_of(self.desk), self.before)

        def fail(desk):
            self.change(desk)
            raise KeyError("x")
        with self.assertRaises(KeyError):
            tried(self.desk, fail)
        self.assertEqual(told_of(self.desk), self.before)
        self.assertIs(tried(self.desk, lambda desk: desk), self.desk)


if __name__ == "__main__":
    unittest.main()
