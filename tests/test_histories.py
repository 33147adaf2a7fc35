"""Desks: deeds taken back and done again, all or none, trials, copies, desks done again, and papers."""

import unittest

from desks import FILL, filled, picture, repeated
from kinds import Own, lean, lists, made, not_lists
from refusals import assert_refused, spoil, tupled
from surerwalks import errors
from surerwalks.claims import contrary, is_claim, is_true, paper_of
from surerwalks.desk import Desk, Trial, tried
from surerwalks.errors import CommandFailed, InvalidCommand, InvalidDeeds, InvalidPaper, NameTaken, NotWhole, NothingToRedo
from surerwalks.errors import NothingToUndo, TooMany, UnknownLabel, UnknownName
from surerwalks.ratios import Ratio

OWN_ERRORS = (errors.WalkError, errors.MissingError, errors.StateError, errors.LimitError)


class TestUndo(unittest.TestCase):
    def test_back_and_forth(self):
        desk, pictures = Desk(), [picture(Desk())[:6]]
        for line in FILL:
            desk.do(line)
            pictures.append(picture(desk)[:6])
        for _ in range(3):
            for at in range(len(FILL) - 1, -1, -1):
                self.assertEqual(desk.do("undo"), FILL[at])
                self.assertEqual((picture(desk)[:6], len(desk)), (pictures[at], at))
            with self.assertRaises(NothingToUndo):
                desk.do("undo")
            for at, line in enumerate(FILL):
                self.assertEqual(desk.do("redo"), line)
                self.assertEqual(picture(desk)[:6], pictures[at + 1])
            with self.assertRaises(NothingToRedo):
                desk.do("redo")

    def test_each_deed(self):
        """Each sort of deed is taken back and done again."""
        for line in ("lazy w 1/2", "turn r", "power r 2", "ring r 0,1,2 -1/6", "rename w 1,0", "copy x t", "drop p", "drop v", "forget k",
                     "claim x lessspread s t", "then x v d", "walk x 1,0;0,1 1/2,1/2", "greatest x p 1,3", "seen x m", "guess x none"):
            desk = filled()
            before = picture(desk)[:6]
            desk.do(line)
            behind = picture(desk)[:6]
            self.assertNotEqual(before, behind)
            for _ in range(2):
                self.assertEqual(desk.do("undo"), line)
                self.assertEqual(picture(desk)[:6], before)
                self.assertEqual(desk.do("redo"), line)
                self.assertEqual(picture(desk)[:6], behind)

    def test_a_new_deed(self):
        """It takes away what could be done again; questions, failures and trials don't."""
        desk = filled()
        desk.do_all("undo", "undo")
        for line in ("names", "show w", "states", "error w f", "same w w"):
            desk.do(line)
        for line in ("fresh w 1,1", "drop x", "keep x 1,0;0,1", "nothing"):
            with self.assertRaises(OWN_ERRORS):
                desk.do(line)
        desk.attempt("fresh x 1,1")
        tried(desk, lambda held: held.do("fresh x 1,1"))
        self.assertEqual(desk.do("redo"), FILL[-2])
        self.assertEqual(desk.do("fresh x 1,1"), "-")
        with self.assertRaises(NothingToRedo):
            desk.do("redo")
        self.assertEqual(desk.lines(), FILL[:-1] + ["fresh x 1,1"])
        self.assertEqual(desk.do_all("undo", "forget k", "undo", "redo"), ["fresh x 1,1", "-", "forget k", "forget k"])

    def test_deeds_that_change_nothing(self):
        desk = filled()
        desk.do_all("power w 1", "lazy w 0", "rename w 0,1")
        self.assertEqual(len(desk), len(FILL) + 3)
        self.assertEqual(repeated(desk, "undo", NothingToUndo), ["rename w 0,1", "lazy w 0", "power w 1"] + FILL[::-1])


class TestAll(unittest.TestCase):
    def test_all(self):
        desk, other = filled(), filled()
        lines = ["fresh x 1,1", "lazy v 1/3", "undo", "redo", "show v", "claim a whole v", "states", "undo"]
        told = desk.do_all(*lines)
        self.assertIs(type(told), list)
        self.assertEqual(told, [other.do(line) for line in lines])
        self.assertEqual(picture(desk), picture(other))
        self.assertEqual(desk.do_all(), [])
        self.assertEqual(picture(desk), picture(other))

    def test_none(self):
        for lines, at, error in [
            (["fresh x 1,1", "fresh x 1,1"], 1, NameTaken), (["drop x"], 0, UnknownName), (["lazy v 1/2", "nothing", "drop x"], 1, InvalidCommand),
            (["lazy v 1/2", "drop w", "drop w"], 2, UnknownName), (["undo"] * 13, 12, NothingToUndo), (["undo", "redo", "redo"], 2, NothingToRedo),
            (["keep x 1,0;0,1"], 0, NotWhole), (["undo", "fresh x 1,1", 5], 2, InvalidCommand), ([None], 0, InvalidCommand),
            (["turn w", ["turn w"]], 1, InvalidCommand), (["fresh x1 1,1", "fresh x2 1,1", "fresh x3 1,1"], 2, TooMany),
            (["forget k", "state k"], 1, UnknownLabel), ([Own()], 0, InvalidCommand),
        ]:
            desk = filled()
            desk.do("undo")
            desk.do("redo")
            before = picture(desk)
            for asked in (desk.do_all, desk.attempt):
                with self.assertRaises(CommandFailed) as caught:
                    asked(*lines)
                self.assertEqual((type(caught.exception), caught.exception.position), (CommandFailed, at))
                self.assertIs(type(caught.exception.__cause__), error)
                if error is InvalidCommand:
                    self.assertIs(caught.exception.__cause__.value, lines[at])
                self.assertEqual(picture(desk), before)

    def test_attempt(self):
        desk = filled()
        desk.do_all("undo", "undo")
        before = picture(desk)
        lines = ["redo", "fresh x 1,1", "lazy v 1/2", "names", "claim z whole x", "states"]
        told = desk.attempt(*lines)
        self.assertEqual(picture(desk), before)
        self.assertEqual(told, desk.copy().do_all(*lines))
        self.assertEqual(desk.attempt(), [])
        self.assertEqual(desk.do_all(*lines), told)


class TestTrial(unittest.TestCase):
    def test_block(self):
        desk = filled()
        desk.do_all("undo", "undo")
        before = picture(desk)
        with Trial(desk) as held:
            self.assertIs(held, desk)
            desk.do_all("redo", "fresh x 1,1", "drop w", "lazy v 1")
            self.assertNotEqual(picture(desk), before)
        self.assertEqual(picture(desk), before)
        with Trial(desk=desk):
            desk.do("drop w")
        self.assertEqual(picture(desk), before)

    def test_errors_go_on(self):
        desk = filled()
        before = picture(desk)
        for error, line in ((UnknownName, "drop x"), (InvalidCommand, 5), (NameTaken, "fresh w 1,1")):
            with self.assertRaises(error):
                with Trial(desk) as held:
                    held.do("lazy v 1/2")
                    held.do(line)
            self.assertEqual(picture(desk), before)
        for error in (ZeroDivisionError, KeyError, KeyboardInterrupt):
            with self.assertRaises(error):
                with Trial(desk):
                    desk.do("drop w")
                    raise error("x")
            self.assertEqual(picture(desk), before)

    def test_as_it_was_ahead_of_the_block(self):
        """Not as it was when the Trial was made; a Trial serves for one block after another."""
        desk = filled()
        trial = Trial(desk)
        desk.do("drop w")
        for line in ("drop v", "fresh x 1,1"):
            before = picture(desk)
            with trial:
                desk.do(line)
            self.assertEqual(picture(desk), before)
            desk.do(line)
        with Trial(desk):
            desk.do("drop d")
            inner = picture(desk)
            with Trial(desk):
                desk.do("drop p")
            self.assertEqual(picture(desk), inner)
        self.assertIn("d", desk)

    def test_papers(self):
        desk = filled()
        desk.attach("k", [(Ratio(1, 4), [1, -1])])
        with Trial(desk):
            desk.do("drop v")
            desk.do("keep v 1/2,1/2;1/2,1/2")
            desk.attach("k", [])
            self.assertIs(desk.fits("k"), True)
        self.assertIs(desk.fits("k"), True)
        other = filled()
        with Trial(other):
            other.attach("k", [(Ratio(1, 4), [1, -1])])
            self.assertIs(other.fits("k"), True)
        self.assertIs(other.fits("k"), False)

    def test_tried(self):
        desk = filled()
        before = picture(desk)
        self.assertEqual(tried(desk, lambda held: held.do_all("drop w", "names")), ["-", "d f g m p r s t v"])
        self.assertIs(tried(desk=desk, action=lambda held: held), desk)
        self.assertIsNone(tried(desk, lambda held: None))
        self.assertEqual(picture(desk), before)
        for error in (UnknownName, ZeroDivisionError):
            def action(held, error=error):
                held.do("drop w")
                raise error(1)
            with self.assertRaises(error):
                tried(desk, action)
            self.assertEqual(picture(desk), before)


class TestCopies(unittest.TestCase):
    def test_copy(self):
        desk = filled()
        desk.attach("k", [(Ratio(1, 4), [1, -1])])
        desk.do_all("undo", "undo", "redo")
        other = desk.copy()
        self.assertIs(type(other), Desk)
        before = picture(desk)
        self.assertEqual(picture(other), before)
        other.do_all("drop v", "fresh v 1,3", "claim z whole v")
        self.assertEqual(picture(desk), before)
        self.assertIs(desk.fits("k"), True)
        third = desk.copy()
        desk.do_all("redo", "drop w", "forget k")
        self.assertEqual(picture(third), before)
        self.assertEqual(third.do("redo"), FILL[-1])

    def test_again(self):
        desk = filled()
        desk.do_all("lazy v 1/2", "undo", "turn r", "forget b")
        for lines in (desk.lines(), tuple(desk.lines())):
            other = Desk.again(lines)
            self.assertIs(type(other), Desk)
            self.assertEqual(picture(other), picture(desk))
        self.assertEqual(picture(Desk.again(lines=[])), picture(Desk()))
        self.assertEqual(Desk.again(desk.lines()).lines(), desk.lines())
        kept = desk.lines()
        Desk.again(kept)
        self.assertEqual(kept, desk.lines())
        self.assertEqual(desk.again(["fresh w 1,1"]).names, ["w"])

    def test_no_deeds(self):
        for value in not_lists():
            self.assert_invalid(value, None)
        for lines, at in [(["undo"], 0), (["fresh w 1,1", "names"], 1), (["fresh w 1,1", "fresh w 1,1", "x"], 2), ([5], 0), (["drop x", None], 1),
                          (["fresh w 1,1", "redo", "x"], 1), ([["fresh w 1,1"]], 0), ((True,), 0), (["fresh w 1,1", Own()], 1), (["states"], 0)]:
            self.assert_invalid(lines, at)
        for value in lists():
            if len(value):
                self.assert_invalid(value, 0)

    def assert_invalid(self, value, position):
        for asked in (lambda: Desk.again(value), lambda: Desk.again(lines=value)):
            with self.assertRaises(InvalidDeeds) as caught:
                asked()
            self.assertEqual((type(caught.exception), caught.exception.position), (InvalidDeeds, position))

    def test_deeds_that_fail(self):
        for lines, at, error in [(["drop x"], 0, UnknownName), (["fresh w 1,1", "fresh w 1,1"], 1, NameTaken), (["keep w 1,0;0,1"], 0, NotWhole)]:
            with self.assertRaises(CommandFailed) as caught:
                Desk.again(lines)
            self.assertEqual((caught.exception.position, type(caught.exception.__cause__)), (at, error))
        full = Desk.again(["function f 1", "drop f"] * 100)
        full.do_all(*["function f 1", "drop f"] * 50)
        with self.assertRaises(CommandFailed) as caught:
            full.do_all("undo", "drop f", "function f 1")
        self.assertEqual((caught.exception.position, type(caught.exception.__cause__)), (2, TooMany))


class TestPapers(unittest.TestCase):
    def test_attach(self):
        squares, worse = [(Ratio(1, 4), [1, -1])], [0, 1]
        desk = filled()
        self.assertIs(desk.fits("k"), False)
        self.assertIsNone(desk.attach("k", squares))
        self.assertIs(desk.fits("k"), True)
        self.assertIs(desk.fits(label="k"), True)
        before = picture(desk)
        for value in (worse, None, True, [], "x", [(1, [1, 1])], Own(), lean(), [(Ratio(1, 4), [1, 1])], [(Ratio(1, 4), [1, True])]):
            assert_refused(self, InvalidPaper, value, lambda: desk.attach("k", value))
            assert_refused(self, InvalidPaper, value, lambda: desk.attach(label="k", paper=value))
            self.assertEqual(picture(desk), before)
        # Another one takes its place.
        desk.attach("k", [(Ratio(1, 8), (1, -1)), (Ratio(1, 8), [-1, 1])])
        self.assertIs(desk.fits("k"), True)
        for label in not_lists() + lists() + ["x", "w", "K", ["k"]]:
            assert_refused(self, UnknownLabel, label, lambda: desk.attach(label, squares))

    def test_of_the_contrary(self):
        desk = filled()
        desk.do_all("claim j surer d v", "claim i surer d d")
        for value in ([0, 1], (0, 1), (5, -7)):
            desk.attach("j", value)
            self.assertIs(desk.fits("j"), True)
        desk.attach("i", [])
        desk.attach("b", (0, 1))
        self.assertEqual([desk.fits(label) for label in ("b", "i", "j", "k")], [True, True, True, False])

    def test_as_things_are_now(self):
        desk = filled()
        desk.attach("k", [(Ratio(1, 4), [1, -1])])
        deeds = [("lazy v 1/2", False), ("undo", True), ("redo", False), ("undo", True), ("drop v", False), ("undo", True), ("lazy d 1/9", False),
                 ("undo", True), ("drop d", False), ("fresh d 3,3", True), ("drop w", True), ("copy x v", True)]
        for line, fits in deeds:
            desk.do(line)
            self.assertIs(desk.fits("k"), fits, line)
        desk.do("drop v")
        for value in ([(Ratio(1, 4), [1, -1])], [], None):
            assert_refused(self, InvalidPaper, value, lambda: desk.attach("k", value))
        self.assertIs(desk.fits("k"), False)
        desk.do("copy v x")
        self.assertIs(desk.fits("k"), True)

    def test_what_it_was_kept_for(self):
        """A paper of the contrary is none any more when things are such that it is no paper of the contrary."""
        desk = Desk()
        desk.do_all("keep v 0,1;1,0", "fresh d 1,1", "claim k surer d v")
        desk.attach("k", [0, 1])
        self.assertIs(desk.fits("k"), True)
        self.assertEqual(desk.do_all("drop d", "keep d 0,1;1,0", "state k"), ["k gone", "k true", "true"])
        self.assertIs(desk.fits("k"), False)
        desk.attach("k", [])
        self.assertIs(desk.fits("k"), True)
        # The square of nought is that of the claim, not of the contrary.
        self.assertEqual(desk.do_all("drop d", "fresh d 1,1")[1], "k false")
        self.assertIs(desk.fits("k"), False)

    def test_labels_noted_again(self):
        desk = filled()
        desk.attach("k", [(Ratio(1, 4), [1, -1])])
        desk.do("forget k")
        assert_refused(self, UnknownLabel, "k", lambda: desk.fits("k"))
        assert_refused(self, UnknownLabel, "k", lambda: desk.attach("k", []))
        desk.do("claim k surer d v")
        self.assertIs(desk.fits("k"), False)
        desk.do_all("forget k", "claim k worse v d")
        self.assertIs(desk.fits("k"), False)
        desk.do_all("forget k", "copy x v", "claim k surer x d")
        self.assertIs(desk.fits("k"), False)
        desk.do_all("forget k", "claim k surer v d")
        self.assertIs(desk.fits("k"), True)
        desk.do_all("undo", "undo")
        self.assertEqual(desk.labels, ["b", "k"])
        self.assertIs(desk.fits("k"), False)
        desk.do_all("undo", "undo", "undo", "undo", "undo")
        self.assertIs(desk.fits("k"), False)
        desk.do_all("undo", "undo")
        self.assertEqual((desk.labels, desk.fits("k")), (["b", "k"], True))

    def test_no_deed(self):
        desk = filled()
        desk.do("undo")
        desk.do("redo")
        desk.do("undo")
        lines = desk.lines()
        desk.attach("k", [(Ratio(1, 4), [1, -1])])
        self.assertEqual((desk.lines(), len(desk)), (lines, len(lines)))
        self.assertEqual(desk.do("redo"), FILL[-1])
        self.assertIs(desk.fits("k"), True)
        self.assertEqual(repeated(desk, "undo", NothingToUndo), FILL[::-1])
        self.assertEqual(desk.labels, [])
        repeated(desk, "redo", NothingToRedo)
        self.assertIs(desk.fits("k"), True)
        self.assertIs(desk.copy().fits("k"), True)
        self.assertIs(Desk.again(desk.lines()).fits("k"), False)

    def test_copied(self):
        """What is attached does not hang on what was passed."""
        desk = filled()
        paper = [(Ratio(1, 4), [1, -1])]
        desk.attach("k", paper)
        spoil(paper)
        self.assertIs(desk.fits("k"), True)

    def test_each_word(self):
        desk = Desk()
        desk.do_all("keep v 0,1;1,0", "fresh d 1,1", "keep r 0,1,0;0,0,1;1,0,0", "walk o 1,0;0,1 1/3,2/3", "guess s 1:1", "guess t 1/2:0;1/2:2",
                    "proposal p 0,1;1,0")
        for words in ("surer v d", "surer d v", "worse v d", "worse d v", "surerrising d v", "worserising d v", "whole o", "shut o", "shut v", "backwards r",
                      "turned r", "lessspread s t", "morespread s t", "morespread t s", "rule p 1,2 0,1;1,0", "norule p 1,2 0,1;1,0", "surerrising v d",
                      "backwards v", "rule p 1,2 0,1;1/2,0", "whole v"):
            other = desk.copy()
            other.do("claim k " + words)
            claim = other.claim_of("k")
            paper = paper_of(claim) if is_true(claim) else paper_of(contrary(claim))
            if paper is None:
                assert_refused(self, InvalidPaper, paper, lambda: other.attach("k", paper))
                self.assertIs(other.fits("k"), False)
            else:
                for value in (paper, tupled(paper) if isinstance(paper, list) and not isinstance(paper[0], tuple) else paper):
                    other.attach("k", value)
                    self.assertIs(other.fits("k"), True)


class Model:
    """A desk told again: from the lines of its deeds, each time anew, by another desk with no more than one deed more."""

    def __init__(self):
        self.lines, self.undone = [], []

    def do(self, command):
        if command == "undo":
            if not self.lines:
                raise NothingToUndo()
            self.undone.append(self.lines.pop())
            return self.undone[-1]
        if command == "redo":
            if not self.undone:
                raise NothingToRedo()
            self.lines.append(self.undone.pop())
            return self.lines[-1]
        desk = Desk()
        for line in self.lines:
            desk.do(line)
        answer = desk.do(command)
        if len(desk) > len(self.lines):
            self.lines.append(command)
            self.undone = []
        return answer


class TestByChance(unittest.TestCase):
    def command(self, stream):
        name, other, new = stream.choices("abcdef", k=3)
        label = stream.choice("klmn")
        number = stream.choice(["0", "1/2", "1/3", "1", "2"])
        return stream.choice([
            f"fresh {new} 1,1", f"keep {new} 0,1;1,0", f"keep {new} 1/2,1/2;1/2,1/2", f"fresh {new} 1,2", f"guess {new} 1:1",
            f"guess {new} 1/2:0;1/2:2", f"function {new} 0,1", f"lazy {name} {number}", f"turn {name}", f"power {name} 2", f"drop {name}",
            f"drop {name}", f"copy {new} {name}", f"then {new} {name} {other}", f"mixed {new} {name} {other} 1/2", f"claim {label} surer {name} {other}",
            f"claim {label} worse {name} {other}", f"claim {label} whole {name}", f"claim {label} lessspread {name} {other}", f"forget {label}",
            "undo", "undo", "redo", "states", "names", f"show {name}", f"error {name} {other}", f"same {name} {other}", f"rename {name} 1,0",
            f"state {label}", f"claimed {label}", f"proposal {new} 0,1;1,0", f"greatest {new} {name} 1,2", f"claim {label} rule {name} 1,2 0,1;1/2,0",
        ])

    def told(self, desk, command):
        try:
            return desk.do(command)
        except OWN_ERRORS as error:
            return type(error), vars(error)

    def test_desks(self):
        stream = made(701)
        for _ in range(12):
            desk, model = Desk(), Model()
            for _ in range(60):
                command = self.command(stream)
                before = desk.do("states")
                answer = self.told(desk, command)
                self.assertEqual(answer, self.told(model, command))
                self.assertEqual(desk.lines(), model.lines)
                self.assert_states(desk, command, before, answer)
            self.assertEqual(picture(Desk.again(desk.lines()))[:6], picture(desk)[:6])

    def assert_states(self, desk, command, before, answer):
        """The states are those of the claims; the answer to a deed tells which are others than ahead of it."""
        states = {label: desk.do("state " + label) for label in desk.labels}
        for label, state in states.items():
            claim = desk.claim_of(label)
            self.assertEqual(state, "gone" if claim is None else "true" if is_true(claim) else "false")
            self.assertTrue(claim is None or is_claim(claim))
        word = command.split(" ")[0]
        if isinstance(answer, str) and word in ("fresh", "keep", "lazy", "turn", "power", "drop", "copy", "claim", "forget", "guess", "rename"):
            ahead = dict(part.split(" ") for part in before.split(", ")) if before != "-" else {}
            changed = [f"{label} {states[label]}" for label in sorted(states) if ahead.get(label) != states[label]]
            self.assertEqual(answer, ", ".join(changed) or "-")


if __name__ == "__main__":
    unittest.main()
