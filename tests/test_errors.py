"""Each error: its base, its parameters by position and by name, its attributes."""

import unittest

from kinds import Own
from surerwalks import errors
from surerwalks.ratios import Ratio

VALUES = """InvalidForm InvalidFunction InvalidMany InvalidNumber InvalidPart InvalidPlace InvalidStart InvalidTable
InvalidWalk InvalidChances InvalidClaim InvalidCommand InvalidControls InvalidCost InvalidGrid InvalidGuess
InvalidGuesses InvalidMuch InvalidNumbers InvalidOrder InvalidPaper InvalidProposal InvalidRing InvalidRow InvalidRows
InvalidShares InvalidSort InvalidTaken InvalidValue InvalidWay InvalidWeights InvalidWhich""".split()
TOLD = [
    ("WalkError", ValueError, None),
    ("MissingError", LookupError, None),
    ("StateError", RuntimeError, None),
    ("LimitError", ArithmeticError, None),
] + [(name, errors.WalkError, ["value"]) for name in VALUES] + [
    ("DividedByZero", errors.WalkError, []),
    ("InvalidDeeds", errors.WalkError, ["position"]),
    ("InvalidText", errors.WalkError, ["line"]),
    ("UnknownLabel", errors.MissingError, ["value"]),
    ("UnknownName", errors.MissingError, ["value"]),
    ("NotWhole", errors.StateError, []),
    ("UnlikePlaces", errors.StateError, []),
    ("UnlikeShares", errors.StateError, []),
    ("CommandFailed", errors.StateError, ["position"]),
    ("LabelTaken", errors.StateError, ["label"]),
    ("NameTaken", errors.StateError, ["name"]),
    ("NeverMeet", errors.StateError, []),
    ("NothingToRedo", errors.StateError, []),
    ("NothingToUndo", errors.StateError, []),
    ("TooMuch", errors.StateError, []),
    ("UnlikeSizes", errors.StateError, []),
    ("TooMany", errors.LimitError, ["what", "limit"]),
]


class TestErrors(unittest.TestCase):
    def test_bases(self):
        for name, base, _ in TOLD:
            with self.subTest(name):
                self.assertEqual(getattr(errors, name).__bases__, (base,))

    def test_no_others(self):
        found = {name for name, value in vars(errors).items() if isinstance(value, type)}
        self.assertEqual(found, {row[0] for row in TOLD})

    def test_attributes(self):
        values = [0, None, True, "a", [1], (), {}, Ratio(1, 2), 10 ** 5000, Own(), ValueError]
        for name, _, parts in TOLD:
            for value in values:
                if parts is None:
                    continue
                with self.subTest(name, value=type(value)):
                    told = [value] + ["other"] * (len(parts) - 1) if parts else []
                    made = getattr(errors, name)
                    for error in (made(*told), made(**dict(zip(parts, told)))):
                        for part, one in zip(parts, told):
                            self.assertIs(getattr(error, part), one)

    def test_parameters_are_wanted(self):
        for name, _, parts in TOLD:
            if parts is None:
                continue
            with self.subTest(name):
                with self.assertRaises(TypeError):
                    getattr(errors, name)(*[1] * (len(parts) + 1))
                if parts:
                    with self.assertRaises(TypeError):
                        getattr(errors, name)()


if __name__ == "__main__":
    unittest.main()
