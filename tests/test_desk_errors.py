import unittest

from helpers import ODD, ODD_LISTS, Case
from lanekeepers import errors
from lanekeepers.desk import Desk
from lanekeepers.errors import InvalidBook, InvalidBooks, InvalidClaim, InvalidCommand, InvalidDoor, InvalidEnd, InvalidGate, InvalidLanes
from lanekeepers.errors import InvalidMends, InvalidStand, InvalidStart, InvalidSteps, InvalidYard, LabelTaken, NameTaken, NoneThere
from lanekeepers.errors import NotALine, NotBounded, NothingToRedo, NothingToUndo, StepFails, TooMany, UnknownLabel, UnknownName
from wrong import PLAIN_ROW

ROW = "web w 0-1,1-2,2-3,3-4|2|2|2"
# A country, a web that is no line, a web that is not bounded, a stand of w and one that is none.
THINGS = ["country c 0-1,1-2", ROW, "web b 0-1,1-2,1-3|2", "web m 0-1,1-2,2-3,3-4|2,1<0|2|2", "web k 0-1,1-2|2,1>2",
          "jam j w", "web f 0-1,1-2,2-3,3-4|3|2|2", "stand x f 1:0>4,1:0>4,1:0>4"]


def desk_with(*commands):
    desk = Desk()
    desk.do_all(*commands)
    return desk


class DeskCase(Case):
    def refused(self, error, told, command, desk):
        """The command raises this error, and nothing changes."""
        before = [desk.lines(), desk.names, desk.labels, desk("states"), [desk("show " + name) for name in desk.names]]
        for call in [desk, desk.do]:
            self.fails(error, told, call, command)
        self.fails(error, told, desk.do, command=command)
        after = [desk.lines(), desk.names, desk.labels, desk("states"), [desk("show " + name) for name in desk.names]]
        self.assertEqual(after, before)
        with self.assertRaises(errors.CommandFailed) as caught:
            desk.do_all("names", command, "names")
        self.assertEqual(caught.exception.position, 1)
        self.assertIs(type(caught.exception.__cause__), error)


class CommandTest(DeskCase):
    def test_no_commands(self):
        desk = desk_with(ROW)
        for odd in ODD + ODD_LISTS + ["", "posts", "posts w w", "posts  w", "country d 0-1, 1-2", "Posts w", "claim k posts w", ["posts w"],
                                      "forget", "web W 0-1,1-2|2", "kind w 100", "few w 4"]:
            self.refused(InvalidCommand, {"value": odd}, odd, desk)

    def test_names_that_are_taken(self):
        desk = desk_with(*THINGS)
        for command in ["country {} 0-1,1-2", "web {} 0-1,1-2|2", "stand {} w -", "land {} w", "turned {} w", "join {} k 2 k 0", "jam {} w",
                        "rest {} w j"]:
            for name in ["c", "w", "j"]:
                self.refused(NameTaken, {"name": name}, command.format(name), desk)
        # Ahead of an unknown name, and of what is wrong in the texts.
        for command in ["stand w y -", "land w y", "join w y 0 z 0", "country c 0-0", "web c 0-0|0"]:
            self.refused(NameTaken, {"name": command.split()[1]}, command, desk)

    def test_labels_that_are_taken(self):
        desk = desk_with(*THINGS, "claim k never w")
        for claim in ["never w", "can y", "few w 41", "few m 4", "moves w w"]:
            self.refused(LabelTaken, {"label": "k"}, "claim k " + claim, desk)
        desk.do("forget k")
        self.assertEqual(desk("claim k can w"), "k true")

    def test_unknown_names(self):
        desk = desk_with(*THINGS)
        for command in ["stand n y -", "land n y", "turned n y", "join n y 0 w 0", "jam n y", "rest n y j", "book y 1 2", "either y 1 2",
                        "both y 1 2", "place y 1 2", "bound y 1 2", "drop y", "show y", "posts y", "sides y", "nearest y", "fewest y",
                        "kind y 0", "all y", "stuck y j", "sticks y 1 1", "refused y j", "lanes y j", "way y 0 1", "same y w",
                        "claim n never y", "claim n plugged y 1 2", "claim n few y 4", "claim n stands y 1 -", "claim n moves y j",
                        "led y w -", "led j y -", "join n w 0 y 0", "rest n w y", "same w y", "claim n stuck w y", "stuck w y"]:
            self.refused(UnknownName, {"value": "y"}, command, desk)

    def test_names_of_another_kind(self):
        desk = desk_with(*THINGS)
        for command, name in [("stand n c -", "c"), ("land n j", "j"), ("join n w 0 c 0", "c"), ("join n w 0 j 0", "j"), ("rest n w w", "w"),
                              ("rest n j j", "j"), ("led w w -", "w"), ("led j j -", "j"), ("book c 1 2", "c"), ("posts j", "j"),
                              ("stuck w c", "c"), ("way w 0 1", "w"), ("way j 0 1", "j"), ("same c w", "w"), ("same w c", "c"),
                              ("same j w", "w"), ("same w j", "j"), ("claim n moves j j", "j"), ("claim n moves w w", "w"),
                              ("claim n never c", "c"), ("led c y -", "c"), ("rest n j y", "j")]:
            self.refused(UnknownName, {"value": name}, command, desk)

    def test_unknown_labels(self):
        desk = desk_with(*THINGS, "claim k never w", "forget k")
        for command in ["state k", "claimed k", "forget k", "state w", "claimed c", "forget y"]:
            self.refused(UnknownLabel, {"value": command.split()[1]}, command, desk)

    def test_nothing_to_undo_or_redo(self):
        desk = Desk()
        self.refused(NothingToUndo, {}, "undo", desk)
        self.refused(NothingToRedo, {}, "redo", desk)
        desk.do(ROW)
        self.refused(NothingToRedo, {}, "redo", desk)
        desk.do("undo")
        self.refused(NothingToUndo, {}, "undo", desk)
        desk.do("redo")
        self.refused(NothingToRedo, {}, "redo", desk)


class OfFunctionsTest(DeskCase):
    def test_countries_and_webs(self):
        desk = desk_with(*THINGS)
        self.refused(InvalidLanes, {"value": [(0, 1)]}, "country n 0-1", desk)
        self.refused(InvalidLanes, {"value": [(2, 1), (1, 0), (0, 2)]}, "country n 2-1,1-0,0-2", desk)
        self.refused(InvalidLanes, {"value": [(1, 0), (5, 1)]}, "web n 1-0,5-1|9|9", desk)
        self.refused(InvalidBooks, {"value": [[(2, [])], [(9, [(None, 1, 1)])]]}, "web n 0-1,1-2|2|9,1>1", desk)
        self.refused(InvalidBook, {"value": [(2, [(None, 2, 1)]), (2, [(0, 0, 7), (2, None, 1)])]}, "web n 0-1,1-2|2,1>2;2,7<0>0,1<2", desk)
        self.refused(InvalidBook, {"value": [(0, [])]}, "web n 0-1,1-2,2-3|0|9", desk)
        self.assertIs(type(self.error_of(desk, "web n 0-1,1-2|2,9>2").value[0][1]), list)

    def error_of(self, desk, command):
        with self.assertRaises(ValueError) as caught:
            desk(command)
        return caught.exception

    def test_stands(self):
        desk = desk_with(*THINGS)
        self.refused(InvalidStand, {"value": [(2, 0, 4), (1, 0, 0)]}, "stand n w 2:0>4,1:0>0", desk)
        self.refused(InvalidStand, {"value": [(1, 4, 0), (1, 0, 4), (1, 0, 4)]}, "stand n w 1:4>0,1:0>4,1:0>4", desk)
        told = [(1, 0, 4)] * 3
        for command in ["rest n w x", "led x w -", "stuck w x", "refused w x", "lanes w x"]:
            self.refused(InvalidStand, {"value": told}, command, desk)
        # Of a stand that comes with an error nothing more is at the desk.
        self.error_of(desk, "stuck w x").value.append(1)
        self.assertEqual(desk["x"], told)

    def test_joined(self):
        desk = desk_with(*THINGS)
        self.refused(InvalidGate, {"value": 1}, "join n w 1 k 1", desk)
        self.refused(InvalidDoor, {"value": 1}, "join n w 4 k 1", desk)
        desk.do_all("join p w 4 w 0", "join q p 0 k 0")
        self.assertEqual([desk["p"].country.gates, desk["q"].country.gates], [[0, 7], [6, 8]])
        self.refused(TooMany, {"what": "yards", "limit": 7}, "join n q 6 k 0", desk)
        self.refused(TooMany, {"what": "yards", "limit": 7}, "join n p 0 p 0", desk)
        self.refused(InvalidDoor, {"value": 3}, "join n p 0 p 3", desk)

    def test_none_there(self):
        self.refused(NoneThere, {}, "jam n k", desk_with(*THINGS))

    def test_books(self):
        desk = desk_with(*THINGS)
        for word in ["book", "either", "both"]:
            self.refused(InvalidYard, {"value": 4}, word + " w 4 2", desk)
            self.refused(InvalidYard, {"value": 0}, word + " w 0 9", desk)
            self.refused(InvalidBook, {"value": [(2, [(None, 2, 1)]), (9, [])]}, word + " w 1 2,1>2;9", desk)
        self.refused(TooMany, {"what": "alternatives", "limit": 4}, "either w 1 1;1;1;1", desk)
        desk.do_all("book w 1 1;1", "book w 2 2" + ",2>1" * 4)
        self.refused(TooMany, {"what": "alternatives", "limit": 4}, "both w 1 1;1;1", desk)
        self.refused(TooMany, {"what": "bounds", "limit": 6}, "both w 2 2" + ",2>1" * 3, desk)
        self.assertEqual(desk.do_all("both w 1 1;1", "both w 2 2,1>1,1>1", "either w 3 1;1;1"), ["-", "-", "-"])

    def test_mends(self):
        desk = desk_with(*THINGS)
        for word in ["place", "bound"]:
            self.refused(NotBounded, {}, word + " m 1 2", desk)
            self.refused(InvalidMends, {"value": [(word, 1, 0)]}, word + " w 1 0", desk)
            self.refused(InvalidMends, {"value": [(word, 9, 10)]}, word + " w 9 10", desk)
        desk.do("book w 1 1")
        self.refused(InvalidMends, {"value": [("bound", 1, 2)]}, "bound w 1 2", desk)
        desk.do("book w 1 6")
        self.refused(InvalidMends, {"value": [("place", 1, 2)]}, "place w 1 2", desk)

    def test_led(self):
        desk = desk_with(*THINGS)
        self.refused(InvalidSteps, {"value": [("in", 0, 4), ("on", 1, 0, 3)]}, "led j w in0>4,on1:0>3", desk)
        self.refused(StepFails, {"position": 0}, "led j w on1:0>4", desk)
        self.refused(StepFails, {"position": 1}, "led j w in4>0,on3:0>4", desk)

    def test_others(self):
        desk = desk_with(*THINGS)
        self.refused(InvalidGate, {"value": 2}, "kind w 2", desk)
        self.refused(InvalidStart, {"value": 3}, "way c 3 4", desk)
        self.refused(InvalidEnd, {"value": 4}, "way c 2 4", desk)
        self.refused(NotBounded, {}, "fewest m", desk)
        self.refused(NotALine, {}, "sticks b 1 1", desk)
        self.refused(NotALine, {}, "sticks m 1 1", desk)

    def test_claims(self):
        desk = desk_with(*THINGS, "stand e w -")
        for words, told in [("few w 41", ("few", PLAIN_ROW, 41)), ("more w 99", ("more", PLAIN_ROW, 99)),
                            ("plugged w 1 0", ("plugged", PLAIN_ROW, 1, 0)), ("free w 4 3", ("free", PLAIN_ROW, 4, 3)),
                            ("stands w 0 -", ("stands", PLAIN_ROW, 0, [])), ("barred w 1 0<0>2", ("barred", PLAIN_ROW, 1, [(0, 2, 0)])),
                            ("stands w 1 1<2>0,1<0>2", ("stands", PLAIN_ROW, 1, [(2, 0, 1), (0, 2, 1)])),
                            ("stands w 1 1<0>2,1<0>2", ("stands", PLAIN_ROW, 1, [(0, 2, 1), (0, 2, 1)])),
                            ("moves w e", ("moves", PLAIN_ROW, [])), ("stuck w x", ("stuck", PLAIN_ROW, [(1, 0, 4)] * 3))]:
            self.refused(InvalidClaim, {"value": told}, "claim n " + words, desk)
        self.refused(InvalidClaim, {"value": ("few", desk["m"], 4)}, "claim n few m 4", desk)


class LimitsTest(DeskCase):
    def test_names(self):
        desk = desk_with(ROW, *["land n{} w".format(at) for at in range(11)])
        self.assertEqual(len(desk.names), 12)
        for command in ["country v 0-1,1-2", "web v 0-1,1-2|2", "stand v w -", "land v w", "turned v w", "join v w 0 w 0", "jam v w"]:
            self.refused(TooMany, {"what": "names", "limit": 12}, command, desk)
        # Behind all others.
        self.refused(InvalidLanes, {"value": [(0, 1)]}, "country v 0-1", desk)
        self.refused(UnknownName, {"value": "y"}, "land v y", desk)
        desk.do("book w 1 2,1>2")
        desk.do("book w 2 2,1>3")
        self.refused(NoneThere, {}, "jam v w", desk)
        desk.do_all("drop n0", "land v w")
        self.assertEqual(len(desk.names), 12)

    def test_labels(self):
        desk = desk_with(ROW, *["claim n{} never w".format(at) for at in range(12)])
        self.assertEqual(len(desk.labels), 12)
        self.refused(TooMany, {"what": "labels", "limit": 12}, "claim v can w", desk)
        self.refused(InvalidClaim, {"value": ("few", PLAIN_ROW, 41)}, "claim v few w 41", desk)
        self.assertEqual(desk.do_all("forget n3", "claim v can w"), ["-", "v true"])

    def test_deeds(self):
        desk = desk_with(ROW)
        for at in range(299):
            desk.do("book w 1 2,1>2")
        self.assertEqual([len(desk), len(desk.lines())], [300, 300])
        for command in ["book w 1 2", "drop w", "land v w", "claim v can w"]:
            self.refused(TooMany, {"what": "deeds", "limit": 300}, command, desk)
        self.refused(InvalidYard, {"value": 4}, "book w 4 2", desk)
        again = Desk.again(desk.lines())
        self.assertEqual([len(again), again("posts w")], [300, desk("posts w")])
        with self.assertRaises(errors.CommandFailed) as caught:
            Desk.again(desk.lines() + ["drop w"])
        self.assertEqual(caught.exception.position, 300)
        self.assertEqual(desk.do_all("undo", "redo"), ["book w 1 2,1>2"] * 2)
        self.assertEqual(desk.do_all("undo", "book w 1 2"), ["book w 1 2,1>2", "-"])
        self.assertEqual(len(desk), 300)

    def test_names_come_ahead_of_deeds(self):
        desk = desk_with(ROW, *["land n{} w".format(at) for at in range(11)])
        for at in range(288):
            desk.do("book w 1 2")
        self.assertEqual(len(desk), 300)
        self.refused(TooMany, {"what": "names", "limit": 12}, "land v w", desk)
        self.refused(TooMany, {"what": "deeds", "limit": 300}, "drop w", desk)


class KeysTest(Case):
    def test_names(self):
        desk = desk_with(ROW, "claim k never w")
        for odd in ODD + ODD_LISTS + ["k", "y", ["w"], ("w",), b"w"]:
            with self.subTest(odd=repr(odd)):
                with self.assertRaises(UnknownName) as caught:
                    desk[odd]
                self.assertEqual(caught.exception.value, odd)
                self.assertIs(type(caught.exception.value), type(odd))

    def test_labels(self):
        desk = desk_with(ROW, "claim k never w")
        for odd in ODD + ODD_LISTS + ["w", "y", ["k"], ("k",), b"k"]:
            for call in [desk.claim_of, desk.fits]:
                self.fails(UnknownLabel, {"value": odd}, call, odd)
                self.fails(UnknownLabel, {"value": odd}, call, label=odd)
            # A wrong label comes ahead of a wrong paper.
            self.fails(UnknownLabel, {"value": odd}, desk.attach, odd, None)
            self.fails(UnknownLabel, {"value": odd}, desk.attach, paper=None, label=odd)


if __name__ == "__main__":
    unittest.main()
