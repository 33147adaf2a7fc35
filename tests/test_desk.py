"""Desks: what deeds keep and change, what questions answer, states, errors, limits."""

import unittest

from desks import FILL, filled, picture
from kinds import Own, lists, not_lists, retold
from refusals import assert_refused, spoil
from surerwalks import errors
from surerwalks.claims import is_claim, is_true
from surerwalks.controls import best_error
from surerwalks.desk import Desk
from surerwalks.errors import InvalidClaim, InvalidCommand, LabelTaken, NameTaken, NotWhole, NothingToRedo, NothingToUndo
from surerwalks.errors import TooMany, UnknownLabel, UnknownName
from surerwalks.flows import flow, room_of_ring, with_ring
from surerwalks.guesses import guessed_table
from surerwalks.meets import meeting_means
from surerwalks.parts import by_lot, given_means, scan, seen
from surerwalks.ratios import Ratio
from surerwalks.rules import greatest_rule, half_rule, walk_by
from surerwalks.singles import among_others, fresh, roots, single
from surerwalks.strays import after, error, error_table, mean, spread
from surerwalks.tours import tour_means
from surerwalks.turns import turn_table
from surerwalks.walks import Walk, backwards, lazy, mixed, power, renamed, then, walk_of

HALF, THIRD, ONE = Ratio(1, 2), Ratio(1, 3), Ratio(1)
LEAN = Walk([[HALF, HALF], [Ratio(1, 4), Ratio(3, 4)]], [THIRD, 1 - THIRD])
TURN = walk_of([[0, 1, 0], [0, 0, 1], [1, 0, 0]])
SWAP, EVEN = walk_of([[0, 1], [1, 0]]), Walk([[HALF, HALF]] * 2, [HALF, HALF])
CHANGE, GRID = [[0, 1], [1, 0]], [[1, 1], [1, 2]]
SURE, ROUGH = [(1, 1)], [(HALF, 0), (HALF, 2)]


def numbers_of(numbers):
    return ",".join(map(str, numbers)) or "-"


def rows_of(rows):
    return ";".join(map(numbers_of, rows))


class TestDeeds(unittest.TestCase):
    def test_kept(self):
        """Each deed with a name, by the function that makes it."""
        told = [
            ("walk x 1/2,1/2;1/4,3/4 1/3,2/3", LEAN), ("walk x 1,0;0,1 1/3,2/3", Walk([[1, 0], [0, 1]], [THIRD, 1 - THIRD])),
            ("keep x 1/2,1/2;1/4,3/4", LEAN),
            ("proposal x 1/2,1/2;0,1", [[HALF, HALF], [0, 1]]), ("proposal x -", [[]]), ("proposal x 5;-;-1/2,7", [[5], [], [-HALF, 7]]),
            ("guess x none", []), ("guess x 1/2:0;1/2:2", ROUGH), ("guess x -1:5", [(-1, 5)]),
            ("function x -", []), ("function x 1/2,-3", [HALF, -3]),
            ("grid x 1,2;3,4", [[1, 2], [3, 4]]), ("grid x -;0", [[], [0]]),
            ("greatest x p 1,3", walk_by(CHANGE, [1, 3], greatest_rule(CHANGE, [1, 3]))),
            ("half x p 1,3", walk_by(CHANGE, [1, 3], half_rule(CHANGE, [1, 3]))),
            ("by x p 1,2 0,1;1/2,1", walk_by(CHANGE, [1, 2], [[0, 1], [HALF, 1]])),
            ("single x 1/2,1/2 1,2", single([HALF, HALF], [1, 2])), ("fresh x 1,2,3", fresh([1, 2, 3])), ("among x 1,2,3", among_others([1, 2, 3])),
            ("then x v d", then(SWAP, EVEN)), ("mixed x v d 1/3", mixed(SWAP, EVEN, THIRD)), ("mixed x d v 1/3", mixed(EVEN, SWAP, THIRD)),
            ("scan x m", scan(GRID)), ("lot x m", by_lot(GRID)), ("seen x m", seen(GRID)),
            ("copy x w", LEAN), ("copy x p", CHANGE), ("copy x t", ROUGH), ("copy x f", [0, 1]), ("copy x m", GRID),
        ]
        for command, thing in told:
            desk = filled()
            before = desk.names
            self.assertEqual(desk.do(command), "-")
            self.assertEqual(desk.names, sorted(before + ["x"]))
            self.assert_thing(desk["x"], thing)
            self.assertEqual(desk.lines(), FILL + [command])
            self.assertEqual(desk.do("undo"), command)
            self.assertEqual(picture(desk)[:6], picture(filled())[:6])

    def assert_thing(self, found, thing):
        if isinstance(thing, Walk):
            self.assertEqual(found, thing)
            return
        self.assertEqual(found, retold(thing))
        self.assertIs(type(found), list)
        self.assertEqual(str(found), str(retold(thing)))

    def test_changed(self):
        told = [
            ("lazy w 1/3", "w", lazy(LEAN, THIRD)), ("turn r", "r", backwards(TURN)), ("power w 3", "w", power(LEAN, 3)),
            ("power w 0", "w", power(LEAN, 0)), ("ring r 0,1,2 -1/6", "r", with_ring(TURN, [0, 1, 2], Ratio(-1, 6))),
            ("rename r 1,2,0", "r", renamed(TURN, [1, 2, 0])), ("rename w 1,0", "w", renamed(LEAN, [1, 0])),
        ]
        for command, name, thing in told:
            desk = filled()
            before = {other: desk[other] for other in desk.names}
            desk.do(command)
            self.assertEqual(desk[name], thing)
            self.assertEqual({other: desk[other] for other in desk.names}, {**before, name: thing})
            self.assertEqual(len(desk), len(FILL) + 1)

    def test_dropped(self):
        for name in filled().names:
            desk = filled()
            desk.do("drop " + name)
            self.assertEqual(desk.names, [other for other in filled().names if other != name])
            self.assertNotIn(name, desk)
            with self.assertRaises(UnknownName):
                desk.do("show " + name)
            # The name is free again, for a thing of any sort.
            self.assertNotIn("Error", desk.do(f"function {name} 5"))
            self.assertEqual(desk[name], [Ratio(5)])

    def test_things_hang_on_nothing(self):
        """What is kept stays when what it was made of is changed or dropped."""
        desk = filled()
        desk.do_all("drop m", "copy x w", "then y v d", "greatest z p 1,3", "lazy w 1/2", "drop v", "drop d", "drop p", "turn x")
        self.assertEqual(desk["x"], backwards(LEAN))
        self.assertEqual(desk["w"], lazy(LEAN, HALF))
        self.assertEqual(desk["y"], EVEN)
        self.assertEqual(desk["z"], walk_by(CHANGE, [1, 3], greatest_rule(CHANGE, [1, 3])))


class TestQuestions(unittest.TestCase):
    def test_answers(self):
        third = [THIRD, 1 - THIRD]
        told = [
            ("mean w f", str(mean(LEAN, [0, 1]))), ("spread w f", str(spread(LEAN, [0, 1]))), ("error w f", str(error(LEAN, [0, 1]))),
            ("error r g", str(error(TURN, [1, 2, -3]))), ("mean r g", "0"),
            ("table w", rows_of(error_table(LEAN))), ("flow w", rows_of(flow(LEAN))), ("flow r", "0,1/3,0;0,0,1/3;1/3,0,0"),
            ("turns v d", rows_of(turn_table(SWAP, EVEN))), ("turns d d", rows_of(turn_table(EVEN, EVEN))),
            ("after w 1/3,2/3 5 f", str(after(LEAN, third, 5, [0, 1]))), ("after w 1,0 1 f", "4/9"),
            ("tours w 1 f", numbers_of(tour_means(LEAN, 1, [0, 1]))), ("tours r 2 g", numbers_of(tour_means(TURN, 2, [1, 2, -3]))),
            ("meets w 1,0 f apart", numbers_of(meeting_means(LEAN, [1, 0], [0, 1], "apart"))),
            ("meets w 1,0 f near", numbers_of(meeting_means(LEAN, [1, 0], [0, 1], "near"))),
            ("room r 0,1,2", numbers_of(room_of_ring(TURN, [0, 1, 2]))), ("room r 2,1,0", "0,1/3"),
            ("best w f h", str(best_error(LEAN, [0, 1], [[0, 4]]))), ("best w f h,f,h", "0"),
            ("given m f", numbers_of(given_means(GRID, [0, 1]))), ("given m f", "1/2,2/3"),
            ("roots 1/2,1/2 1,2", numbers_of(roots([HALF, HALF], [1, 2]))), ("roots 1/3,1/3,1/3 1,1,2", "1/3,0"),
            ("guessed p 1,1 s,s", "0,0;0,0"), ("guessed p 1,1 t,s", rows_of(guessed_table(CHANGE, [1, 1], [ROUGH, SURE]))),
            ("show w", "1/2,1/2;1/4,3/4 1/3,2/3"), ("show r", "0,1,0;0,0,1;1,0,0 1/3,1/3,1/3"), ("show p", "0,1;1,0"), ("show m", "1,1;1,2"),
            ("show s", "1:1"), ("show t", "1/2:0;1/2:2"), ("show f", "0,1"), ("show g", "1,2,-3"), ("show e", "-"), ("show n", "none"),
            ("same w w", "yes"), ("same v d", "no"), ("same w r", "no"), ("same f e", "no"), ("same f g", "no"), ("same s t", "no"),
            ("same p p", "yes"), ("same f f", "yes"), ("same v u", "yes"), ("names", "d f g m p r s t v w"),
            ("state k", "true"), ("state b", "false"), ("states", "b false, k true"), ("claimed k", "surer v d"), ("claimed b", "backwards r"),
        ]
        # Ten names are kept; these are added where they are wanted.
        sets = {"h": "function h 0,4", "e": "function e -", "n": "guess n none", "u": "keep u 0,1;1,0"}
        for command, answer in told:
            words = command.replace(",", " ").split(" ")
            trial = filled()
            for name, line in sets.items():
                if name in words and name not in trial:
                    trial.do(line)
            before = picture(trial)
            self.assertEqual(trial.do(command), answer, command)
            self.assertEqual(trial(command), answer)
            self.assertEqual(trial.do(command=command), answer)
            self.assertEqual(picture(trial), before)

    def test_empty(self):
        desk = Desk()
        self.assertEqual([desk.do("names"), desk.do("states")], ["-", "-"])
        self.assertEqual((desk.names, desk.labels, len(desk), desk.lines()), ([], [], 0, []))

    def test_long_numbers(self):
        """In answers numbers have as many digits as there are."""
        desk = Desk()
        desk.do_all("keep w 1/999983,999982/999983;999978/999979,1/999979", "power w 12")
        walk = power(walk_of([[Ratio(1, 999983), Ratio(999982, 999983)], [Ratio(999978, 999979), Ratio(1, 999979)]]), 12)
        self.assertEqual(desk.do("show w"), rows_of(walk.rows()) + " " + numbers_of(walk.shares()))
        self.assertGreater(len(desk.do("show w")), 500)


class TestStates(unittest.TestCase):
    def test_changes(self):
        desk = Desk()
        told = [
            ("fresh d 1,1", "-"), ("keep v 0,1;1,0", "-"), ("claim k surer v d", "k true"), ("claim j worse v d", "j false"),
            ("claim a whole v", "a true"), ("lazy v 1/2", "-"), ("lazy v 1/2", "j true, k false"), ("undo", "lazy v 1/2"), ("state k", "true"),
            ("redo", "lazy v 1/2"), ("states", "a true, j true, k false"), ("lazy v 1", "a false, j gone, k gone"),
            ("claim z shut v", "z true"), ("drop v", "a gone, z gone"), ("states", "a gone, j gone, k gone, z gone"),
            ("function v 1,2", "-"), ("drop v", "-"), ("keep v 1,0,0;0,1,0;0,0,1", None), ("fresh v 2,2", "a true, j false, k true, z false"),
            ("drop d", "j gone, k gone"), ("keep d 0,1;1,0", "j true, k false"), ("forget k", "-"), ("states", "a true, j true, z false"),
            ("forget a", "-"), ("claim k surer d v", "k true"), ("states", "j true, k true, z false"), ("turn d", "-"),
            ("rename d 1,0", "-"), ("power d 2", "j gone, k gone"), ("undo", "power d 2"), ("states", "j true, k true, z false"),
        ]
        for command, answer in told:
            if answer is None:
                with self.assertRaises(NotWhole):
                    desk.do(command)
            else:
                self.assertEqual(desk.do(command), answer, command)
            self.assert_states(desk)

    def assert_states(self, desk):
        """Each state is that of the claim that is there now."""
        for label in desk.labels:
            claim = desk.claim_of(label)
            state = desk.do("state " + label)
            if claim is None:
                self.assertEqual(state, "gone")
            else:
                self.assertIs(is_claim(claim), True)
                self.assertEqual(state, "true" if is_true(claim) else "false")
        told = ", ".join(f"{label} {desk.do('state ' + label)}" for label in desk.labels) or "-"
        self.assertEqual(desk.do("states"), told)

    def test_each_word(self):
        told = [
            ("surer v d", ("surer", SWAP, EVEN), "true"), ("worse v d", ("worse", SWAP, EVEN), "false"), ("surer d v", ("surer", EVEN, SWAP), "false"),
            ("surerrising v d", ("surerrising", SWAP, EVEN), "true"), ("worserising d v", ("worserising", EVEN, SWAP), "true"),
            ("whole w", ("whole", LEAN), "true"), ("shut w", ("shut", LEAN), "false"), ("backwards r", ("backwards", TURN), "false"),
            ("turned r", ("turned", TURN), "true"), ("lessspread s t", ("lessspread", [(ONE, ONE)], retold(ROUGH)), "true"),
            ("morespread s t", ("morespread", [(ONE, ONE)], retold(ROUGH)), "false"), ("lessspread t t", ("lessspread", ROUGH, ROUGH), "true"),
            ("rule p 1,2 0,1;1/2,0", ("rule", CHANGE, [1, 2], [[0, 1], [HALF, 0]]), "true"),
            ("norule p 1,2 0,1;1,0", ("norule", CHANGE, [1, 2], [[0, 1], [1, 0]]), "true"),
            ("rule p 1,2 0,1;1,0", ("rule", CHANGE, [1, 2], [[0, 1], [1, 0]]), "false"),
        ]
        for words, claim, state in told:
            desk = filled()
            self.assertEqual(desk.do("claim x " + words), "x " + state)
            self.assertEqual(desk.do("state x"), state)
            self.assertEqual(desk.do("claimed x"), words)
            found = desk.claim_of("x")
            self.assertIs(type(found), tuple)
            self.assertEqual(found, tuple(retold(part) for part in claim))
            self.assertEqual(str(found[1:])[:9], str(tuple(retold(part) for part in claim[1:]))[:9])
            for part in found:
                spoil(part)
            self.assertEqual(desk.claim_of("x"), tuple(retold(part) for part in claim))
            for name in set(words.split(" ")[1:]) & set(desk.names):
                other = desk.copy()
                self.assertIn("x gone", other.do("drop " + name))
                self.assertIsNone(other.claim_of("x"))
                self.assertEqual(other.do("claimed x"), words)
                # A thing of another sort does not bring it back.
                self.assertEqual(other.do(f"function {name} 1,1"), "-")
                self.assertEqual(other.do("state x"), "gone")

    def test_no_claim_then(self):
        """Gone while the tuple is no claim: of the four kept sorts whatever is told is kept."""
        desk = Desk()
        desk.do_all("guess s 1:1", "guess t 1/2:0;1/2:2", "proposal p 0,1;1,0", "claim l lessspread s t", "claim q rule p 1,1 0,1;1,0")
        self.assertEqual(desk.do("drop s"), "l gone")
        self.assertEqual(desk.do("guess s 1:2"), "-")
        self.assertEqual(desk.do("undo"), "guess s 1:2")
        self.assertEqual(desk.do("guess s none"), "-")
        self.assertIsNone(desk.claim_of("l"))
        self.assertEqual(desk.do_all("drop s", "guess s 1:1"), ["-", "l true"])
        self.assertEqual(desk.do_all("drop p", "proposal p 1,1;0,1", "drop p", "grid p 0,1;1,0", "drop p"), ["q gone", "-", "-", "-", "-"])
        self.assertEqual(desk.do("proposal p 1/2,1/2;1/2,1/2"), "q true")
        self.assertEqual(desk.do_all("drop p", "proposal p 0,1,0;0,0,1;1,0,0"), ["q gone", "-"])

    def test_labels_may_be_names(self):
        desk = filled()
        self.assertEqual(desk.do("claim w whole w"), "w true")
        self.assertEqual(desk.do("claim surer surer v v"), "surer true")
        self.assertEqual(desk.do_all("keep k 0,1;1,0", "claim d whole k", "drop w", "state w"), ["-", "d true", "w gone", "gone"])
        self.assertEqual(desk.labels, ["b", "d", "k", "surer", "w"])


class TestErrors(unittest.TestCase):
    def assert_fails(self, desk, command, error, told=None):
        """Just this error, with what it tells; nothing is changed by it."""
        before = picture(desk)
        with self.assertRaises(error) as caught:
            desk.do(command)
        self.assertIs(type(caught.exception), error)
        if told is not None:
            for name, value in told.items():
                found = getattr(caught.exception, name)
                self.assertEqual(found, value)
                self.assertIs(type(found), type(value))
                spoil(found)
        with self.assertRaises(error):
            desk(command)
        self.assertEqual(picture(desk), before)

    def test_no_commands(self):
        desk = filled()
        for value in not_lists() + lists() + ["", "x", "turn", "turn W", "turn  w", "lazy w 2/4", "keep x 1,2;", ["turn w"], b"turn w", Own()]:
            assert_refused(self, InvalidCommand, value, lambda: desk.do(value))
            assert_refused(self, InvalidCommand, value, lambda: desk(value))
            assert_refused(self, InvalidCommand, value, lambda: desk.do(command=value))
        self.assertEqual(picture(desk), picture(filled()))

    def test_taken_and_unknown(self):
        """Taken comes first, then the first name that is not there."""
        desk = filled()
        for command, error, told in [
            ("fresh w 1,1", NameTaken, {"name": "w"}), ("fresh w 0", NameTaken, {"name": "w"}), ("then w x y", NameTaken, {"name": "w"}),
            ("copy f x", NameTaken, {"name": "f"}), ("greatest p x -", NameTaken, {"name": "p"}),
            ("claim k surer x y", LabelTaken, {"label": "k"}), ("claim b whole v", LabelTaken, {"label": "b"}),
            ("then x y z", UnknownName, {"value": "y"}), ("then x v z", UnknownName, {"value": "z"}), ("then x v f", UnknownName, {"value": "f"}),
            ("then x f v", UnknownName, {"value": "f"}), ("mixed x v p 5", UnknownName, {"value": "p"}), ("copy x y", UnknownName, {"value": "y"}),
            ("drop x", UnknownName, {"value": "x"}), ("drop k", UnknownName, {"value": "k"}), ("lazy f 1/2", UnknownName, {"value": "f"}),
            ("lazy x 5", UnknownName, {"value": "x"}), ("turn p", UnknownName, {"value": "p"}), ("power m 99", UnknownName, {"value": "m"}),
            ("ring x 0 1", UnknownName, {"value": "x"}), ("rename g 0,1", UnknownName, {"value": "g"}), ("greatest x v 1,1", UnknownName, {"value": "v"}),
            ("greatest x m 1,1", UnknownName, {"value": "m"}), ("scan x p", UnknownName, {"value": "p"}), ("seen x f", UnknownName, {"value": "f"}),
            ("claim x surer y z", UnknownName, {"value": "y"}), ("claim x surer v f", UnknownName, {"value": "f"}),
            ("claim x whole s", UnknownName, {"value": "s"}), ("claim x lessspread s p", UnknownName, {"value": "p"}),
            ("claim x lessspread s w", UnknownName, {"value": "w"}), ("claim x rule m - -", UnknownName, {"value": "m"}),
            ("forget x", UnknownLabel, {"value": "x"}), ("forget w", UnknownLabel, {"value": "w"}), ("state w", UnknownLabel, {"value": "w"}),
            ("claimed x", UnknownLabel, {"value": "x"}), ("show k", UnknownName, {"value": "k"}), ("same x y", UnknownName, {"value": "x"}),
            ("same v f", UnknownName, {"value": "f"}), ("same f v", UnknownName, {"value": "v"}), ("same p m", UnknownName, {"value": "m"}),
            ("same s x", UnknownName, {"value": "x"}), ("mean v w", UnknownName, {"value": "w"}), ("mean f f", UnknownName, {"value": "f"}),
            ("error x y", UnknownName, {"value": "x"}), ("turns v f", UnknownName, {"value": "f"}), ("after v - 0 x", UnknownName, {"value": "x"}),
            ("best v f g,x,y", UnknownName, {"value": "x"}), ("best v f g,v", UnknownName, {"value": "v"}), ("given p f", UnknownName, {"value": "p"}),
            ("guessed p - s,x,y", UnknownName, {"value": "x"}), ("guessed p - f,s", UnknownName, {"value": "f"}),
            ("guessed m - x", UnknownName, {"value": "m"}), ("meets r - x near", UnknownName, {"value": "x"}), ("room s -", UnknownName, {"value": "s"}),
        ]:
            self.assert_fails(desk, command, error, told)

    def test_errors_of_functions(self):
        """The NUMBERS are Ratios, the COUNTS INTEGERS, lists lists, pairs tuples."""
        desk = filled()
        desk.do_all("proposal y 5", "function u -")
        for command, name, told in [
            ("walk x 1,2;0,1 1/2,1/2", "InvalidRows", [[ONE, Ratio(2)], [Ratio(0), ONE]]), ("walk x 0,1;1,0 1,2", "InvalidShares", [ONE, Ratio(2)]),
            ("walk x - -", "InvalidRows", [[]]), ("keep x 1;-", "InvalidRows", [[ONE], []]), ("keep x 1,0;0,1", "NotWhole", None),
            ("greatest x y 1", "InvalidProposal", [[Ratio(5)]]), ("half x p 1", "InvalidWeights", [ONE]), ("half x p -", "InvalidWeights", []),
            ("by x p 1,2 0,1;1,0", "InvalidTaken", [[Ratio(0), ONE], [ONE, Ratio(0)]]), ("single x 1 1", "InvalidChances", [ONE]),
            ("single x 1/2,1/2 0,1", "InvalidWeights", [Ratio(0), ONE]), ("fresh x 0,1", "InvalidWeights", [Ratio(0), ONE]),
            ("among x 1", "InvalidWeights", [ONE]), ("then x v r", "UnlikePlaces", None), ("then x v w", "UnlikeShares", None),
            ("mixed x v d 2", "InvalidPart", Ratio(2)), ("mixed x v r 2", "InvalidPart", Ratio(2)), ("mixed x v r 1", "UnlikePlaces", None),
            ("lazy v -1/2", "InvalidPart", -HALF), ("power v 13", "InvalidMany", 13), ("power v " + "9" * 30, "InvalidMany", 10 ** 30 - 1),
            ("ring r 0,1 5", "InvalidRing", [0, 1]), ("ring r - 0", "InvalidRing", []), ("ring r 0,1,2 5", "TooMuch", None),
            ("rename v 0", "InvalidOrder", [0]), ("rename v 0,2", "InvalidOrder", [0, 2]),
            ("mean v g", "InvalidFunction", [ONE, Ratio(2), Ratio(-3)]), ("spread v u", "InvalidFunction", []), ("error r f", "InvalidFunction", [Ratio(0), ONE]),
            ("turns v r", "UnlikePlaces", None), ("turns v v", "NotWhole", None), ("after v 1,1 1 g", "InvalidStart", [ONE, ONE]),
            ("after v 1,0 0 g", "InvalidMany", 0), ("after v 1,0 13 f", "InvalidMany", 13), ("tours v 2 g", "InvalidPlace", 2),
            ("tours v 1 g", "InvalidFunction", [ONE, Ratio(2), Ratio(-3)]), ("meets v 1,0 f near", "NeverMeet", None),
            ("meets v 2,-1 g near", "InvalidStart", [Ratio(2), -ONE]), ("room r 0,0,1", "InvalidRing", [0, 0, 1]),
            ("best v f g,f", "InvalidControls", [[ONE, Ratio(2), Ratio(-3)], [Ratio(0), ONE]]), ("given m g", "InvalidFunction", [ONE, Ratio(2), Ratio(-3)]),
            ("roots 1/2,1/2 1", "InvalidWeights", [ONE]), ("guessed y - s", "InvalidProposal", [[Ratio(5)]]),
            ("guessed p 1,1 s", "InvalidGuesses", [[(ONE, ONE)]]),
            ("guessed p 1,1 s,t,s", "InvalidGuesses", [[(ONE, ONE)], [(HALF, Ratio(0)), (HALF, Ratio(2))], [(ONE, ONE)]]),
        ]:
            self.assert_fails(desk, command, getattr(errors, name), None if told is None else {"value": told})
        desk.do_all("drop m", "grid m 1", "drop u", "guess u 1:2")
        self.assert_fails(desk, "scan x m", errors.InvalidGrid, {"value": [[ONE]]})
        self.assert_fails(desk, "given m g", errors.InvalidGrid, {"value": [[ONE]]})
        self.assert_fails(desk, "guessed p 1,1 s,u", errors.InvalidGuesses, {"value": [[(ONE, ONE)], [(ONE, Ratio(2))]]})

    def test_no_claims(self):
        desk = filled()
        desk.do_all("walk x 1,0;0,1 1/2,1/2", "guess u 1:2")
        stays = Walk([[1, 0], [0, 1]], [HALF, HALF])
        for words, claim in [
            ("surer v x", ("surer", SWAP, stays)), ("surer v r", ("surer", SWAP, TURN)), ("worserising v w", ("worserising", SWAP, LEAN)),
            ("lessspread s u", ("lessspread", [(ONE, ONE)], [(ONE, Ratio(2))])),
            ("rule p 1 0,1;1,0", ("rule", retold(CHANGE), [ONE], retold([[0, 1], [1, 0]]))),
            ("norule p 1,1 -", ("norule", retold(CHANGE), [ONE, ONE], [[]])),
        ]:
            self.assert_fails(desk, "claim l " + words, InvalidClaim, {"value": claim})

    def test_what_comes_last(self):
        """Behind all others too many names, labels, then deeds."""
        desk = filled()
        desk.do_all("function n1 1", "function n2 1")
        self.assertEqual(len(desk.names), 12)
        for command, error in [("fresh x 1,1", TooMany), ("copy x w", TooMany), ("function x -", TooMany), ("fresh x 0", errors.InvalidWeights),
                               ("copy x y", UnknownName), ("keep x 1,0;0,1", NotWhole), ("fresh w 1,1", NameTaken)]:
            self.assert_fails(desk, command, error, {"what": "names", "limit": 12} if error is TooMany else None)
        for at in range(10):
            desk.do(f"claim l{at} whole v")
        for command, error in [("claim x whole v", TooMany), ("claim x surer v r", InvalidClaim), ("claim x whole y", UnknownName),
                               ("claim k whole v", LabelTaken)]:
            self.assert_fails(desk, command, error, {"what": "labels", "limit": 12} if error is TooMany else None)
        desk.do_all("forget l0", "claim x whole v", "drop n1", "fresh x 1,1")
        self.assertEqual((len(desk.names), len(desk.labels)), (12, 12))

    def test_nothing_to_undo(self):
        desk = Desk()
        self.assert_fails(desk, "undo", NothingToUndo)
        self.assert_fails(desk, "redo", NothingToRedo)
        desk.do("function f 1")
        self.assert_fails(desk, "redo", NothingToRedo)
        desk.do("undo")
        self.assert_fails(desk, "undo", NothingToUndo)


class TestLimits(unittest.TestCase):
    def test_deeds(self):
        desk = Desk()
        desk.do_all(*["function f 1", "drop f"] * 150)
        self.assertEqual(len(desk), 300)
        names = ["function f 1", "claim k whole f", "drop f"]
        for command, error in zip(names, (TooMany, UnknownName, UnknownName)):
            with self.assertRaises(error) as caught:
                desk.do(command)
        with self.assertRaises(TooMany) as caught:
            desk.do("fresh w 1,1")
        self.assertEqual((caught.exception.what, caught.exception.limit), ("deeds", 300))
        self.assertEqual((len(desk), desk.names), (300, []))
        with self.assertRaises(errors.InvalidWeights):
            desk.do("fresh w 0")
        self.assertEqual(desk.do("names"), "-")
        self.assertEqual(desk.do_all("undo", "undo", "redo"), ["drop f", "function f 1", "function f 1"])
        self.assertEqual(len(desk), 299)
        self.assertEqual(desk.do_all("drop f"), ["-"])
        with self.assertRaises(TooMany):
            desk.do("function f 1")
        self.assertEqual(len(Desk.again(desk.lines())), 300)

    def test_names_ahead_of_deeds(self):
        desk = Desk()
        desk.do_all(*[f"function f{at} 1" for at in range(12)])
        desk.do_all(*["drop f0", "function f0 2"] * 144)
        self.assertEqual(len(desk), 300)
        with self.assertRaises(TooMany) as caught:
            desk.do("function g 1")
        self.assertEqual(caught.exception.what, "names")
        with self.assertRaises(TooMany) as caught:
            desk.do("drop f0")
        self.assertEqual(caught.exception.what, "deeds")

    def test_names_and_labels(self):
        desk = Desk()
        for name in ("a", "abcdefgh", "z1234567"):
            desk.do_all(f"fresh {name} 1,1", f"claim {name} whole {name}")
        self.assertEqual(desk.names, ["a", "abcdefgh", "z1234567"])
        for name in ("abcdefghi", "1a", "A", "a_"):
            for command in (f"fresh {name} 1,1", f"claim {name} whole a", f"show {name}", f"state {name}"):
                assert_refused(self, InvalidCommand, command, lambda: desk.do(command))


class TestThings(unittest.TestCase):
    def test_told_anew(self):
        desk = filled()
        for name in desk.names:
            self.assertIn(name, desk)
            found = desk[name]
            told = desk.do("show " + name)
            spoil(found)
            if isinstance(found, Walk):
                spoil(found.rows())
            self.assertEqual(desk.do("show " + name), told)
        for told in (desk.names, desk.labels, desk.lines()):
            self.assertIs(type(told), list)
            spoil(told)
        self.assertEqual(picture(desk), picture(filled()))

    def test_unknown(self):
        desk = filled()
        for value in not_lists() + lists() + ["x", "W", "w ", "k", ["w"], ("w",), b"w", Own()]:
            assert_refused(self, UnknownName, value, lambda: desk[value])
            self.assertIs(value in desk, False)
            for asked in (desk.claim_of, desk.fits):
                if not (isinstance(value, str) and value in desk.labels):
                    assert_refused(self, UnknownLabel, value, lambda: asked(value))
                    assert_refused(self, UnknownLabel, value, lambda: asked(label=value))
        self.assertIs("w" in desk, True)
        self.assertEqual(desk.claim_of(label="k"), ("surer", SWAP, EVEN))

    def test_not_iterated(self):
        with self.assertRaises(TypeError):
            list(filled())

    def test_kinds(self):
        desk = filled()
        self.assertEqual(desk["t"], [(HALF, Ratio(0)), (HALF, Ratio(2))])
        self.assertEqual({type(part) for part in desk["t"]}, {tuple})
        self.assertEqual(desk["m"], retold(GRID))
        self.assertEqual({type(part) for part in desk["m"]}, {list})
        self.assertEqual(len(desk), len(FILL))


if __name__ == "__main__":
    unittest.main()
