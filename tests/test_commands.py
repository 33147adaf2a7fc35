"""Names, commands and deeds, by their words alone."""

import math
import re
import unittest

from kinds import Own, lean, lists, not_lists
from surerwalks.commands import is_command, is_deed, is_name

DEEDS = """walk NEW ROWS NUMBERS|keep NEW ROWS|proposal NEW ROWS|guess NEW PAIRS|function NEW NUMBERS|grid NEW ROWS
greatest NEW PROPOSAL NUMBERS|half NEW PROPOSAL NUMBERS|by NEW PROPOSAL NUMBERS ROWS|single NEW NUMBERS NUMBERS|fresh NEW NUMBERS
among NEW NUMBERS|then NEW WALK OTHER|mixed NEW WALK OTHER NUMBER|scan NEW GRID|lot NEW GRID|seen NEW GRID|lazy WALK NUMBER|turn WALK
power WALK COUNT|ring WALK COUNTS NUMBER|rename WALK COUNTS|copy NEW NAME|drop NAME|claim LABEL surer WALK OTHER|claim LABEL worse WALK OTHER
claim LABEL surerrising WALK OTHER|claim LABEL worserising WALK OTHER|claim LABEL whole WALK|claim LABEL shut WALK
claim LABEL backwards WALK|claim LABEL turned WALK|claim LABEL lessspread GUESS OTHER|claim LABEL morespread GUESS OTHER
claim LABEL rule PROPOSAL NUMBERS ROWS|claim LABEL norule PROPOSAL NUMBERS ROWS|forget LABEL""".replace("\n", "|").split("|")
OTHERS = """undo|redo|state LABEL|states|claimed LABEL|names|show NAME|same NAME OTHER|mean WALK FUNCTION|spread WALK FUNCTION
error WALK FUNCTION|table WALK|flow WALK|turns WALK OTHER|after WALK NUMBERS COUNT FUNCTION|tours WALK COUNT FUNCTION
meets WALK NUMBERS FUNCTION WAY|room WALK COUNTS|best WALK FUNCTION FUNCTIONS|given GRID FUNCTION|roots NUMBERS NUMBERS
guessed PROPOSAL NUMBERS GUESSES""".replace("\n", "|").split("|")
NAMES = ["a", "z9", "abcdefgh", "a1b2c3d4", "walk", "claim", "surer", "undo", "apart", "none"]
WRONG_NAMES = ["", "A", "1", "9a", "abcdefghi", "a_b", "a-b", "a b", "-", "a.", "aB", "a,b", "a\n", "a;", ":", "/", "a1b2c3d4e", "{", "`"]
WRONG_NUMBERS = ["", "-0", "01", "00", "1/1", "2/4", "0/2", "1/0", "1/", "/2", "--1", "+1", "1/-2", "1.5", "x", "1234567", "-1234567", "1/1234567",
                 "1234567/2", "1/2/3", "1_0", " 1", "1e3", "-"]
NUMBERS = ["0", "-1", "1/2", "-3/2", "999999", "-999999/999998", "123456/654323", "7"]
RIGHT = {
    "NEW": NAMES, "LABEL": NAMES,
    "NUMBER": NUMBERS,
    "NUMBERS": NUMBERS + ["-", "1,2", "0,1/2,-3", ",".join(["7"] * 60)],
    "COUNT": ["0", "5", "12", "9" * 30],
    "COUNTS": ["-", "0", "0,1,2", "9" * 30 + ",7", ",".join(["0"] * 60)],
    "ROWS": ["-", "0", "0,1;1,0", "-;-", "1;-;2,3", ";".join(["0"] * 60), ",".join(["1"] * 60) + ";1/2", ";".join(["-"] * 60), "1,2;3"],
    "PAIRS": ["none", "1:1", "1/2:0;1/2:2", ";".join(["-1:7/3"] * 60), "-1/2:-5"],
    "WAY": ["apart", "near"],
    "GUESSES": ["a", "a,b", "a,a,a,a,a,a", "g1,abcdefgh,c"],
    "FUNCTIONS": ["f", "f,g", "f,f,abcdefgh"],
}
WRONG = {
    "NEW": WRONG_NAMES, "LABEL": WRONG_NAMES,
    "NUMBER": WRONG_NUMBERS + ["1,2", "none"],
    "NUMBERS": [word for word in WRONG_NUMBERS if word != "-"] + ["1,", ",1", "1,,2", "-,1", "1,-", "1;2", "1,2/4", "1:2", "none", "1, 2",
                                                               ",".join(["7"] * 61), "1,2,1234567"],
    "COUNT": ["", "-", "-1", "01", "1/2", "1,2", "x", "9" * 31, "+1", "1:", "2/1", "0" * 30],
    "COUNTS": ["", "-1", "1,", ",1", "0,-1", "0,01", "1/2", "1;2", "-,1", "9" * 31, "1," + "9" * 31, ",".join(["0"] * 61), "none", "1,,2"],
    "ROWS": ["", ";", "1;", ";1", "1;;2", "1,2;3,", "1;2/4", "1;1234567", ";".join(["0"] * 61), ",".join(["1"] * 61), "1;" + ",".join(["1"] * 61),
             "none", "1:2", "-;--"],
    "PAIRS": ["", "-", "1", "1:", ":1", "1:2:3", "1:2;", ";1:2", "1:2;3", "1:2,3:4", "none;1:1", "1:2/4", "1:1234567", ";".join(["1:1"] * 61), "1;1",
              "1:-", "None"],
    "WAY": ["", "Apart", "far", "nea", "nearr", "-", "apart,near"],
    "GUESSES": ["", "-", "a,", ",a", "a,,b", "a,B", "a;b", "a,a,a,a,a,a,a", "none,", "abcdefghi", "a, b"],
    "FUNCTIONS": ["", "-", "f,", ",f", "f,f,f,f", "f,1", "f;f", "f,abcdefghi"],
}
for kind in ("WALK", "OTHER", "PROPOSAL", "GUESS", "FUNCTION", "GRID", "NAME"):
    RIGHT[kind], WRONG[kind] = NAMES, WRONG_NAMES


def pattern_of(row):
    """The pattern of the row's commands, but for fractions that are not in lowest terms."""
    name, number, count = "[a-z][a-z0-9]{0,7}", "(?:0|-?[1-9][0-9]{0,5})(?:/(?:[2-9]|[1-9][0-9]{1,5}))?", "(?:0|[1-9][0-9]{0,29})"
    numbers = f"(?:-|{number}(?:,{number}){{0,59}})"
    told = {
        "NUMBER": number, "NUMBERS": numbers, "COUNT": count, "COUNTS": f"(?:-|{count}(?:,{count}){{0,59}})", "WAY": "(?:apart|near)",
        "ROWS": f"{numbers}(?:;{numbers}){{0,59}}", "PAIRS": f"(?:none|{number}:{number}(?:;{number}:{number}){{0,59}})",
        "GUESSES": f"{name}(?:,{name}){{0,5}}", "FUNCTIONS": f"{name}(?:,{name}){{0,2}}",
    }
    return re.compile(" ".join(told.get(word, name if word.isupper() else word) for word in row.split(" ")))


def in_lowest_terms(value):
    return all(math.gcd(int(top), int(bottom)) == 1 for top, bottom in re.findall("([0-9]+)/([0-9]+)", value))


PATTERNS = [(pattern_of(row), deed) for rows, deed in ((DEEDS, True), (OTHERS, False)) for row in rows]


def some_command(row, at=0):
    """A command of the row of the tables, with right words."""
    return " ".join([RIGHT[word][at % len(RIGHT[word])] if word in RIGHT else word for word in row.split(" ")])


class TestCommands(unittest.TestCase):
    def assert_told(self, value, command, deed):
        self.assertIs(is_command(value), command, repr(value))
        self.assertIs(is_deed(value), deed, repr(value))

    def test_right(self):
        for rows, deed in ((DEEDS, True), (OTHERS, False)):
            for row in rows:
                for at in range(10):
                    self.assert_told(some_command(row, at), True, deed)
                for at, kind in enumerate(row.split(" ")):
                    for word in RIGHT.get(kind, []):
                        words = some_command(row).split(" ")
                        self.assert_told(" ".join(words[:at] + [word] + words[at + 1:]), True, deed)

    def test_one_wrong(self):
        for row in DEEDS + OTHERS:
            for at, kind in enumerate(row.split(" ")):
                words = some_command(row).split(" ")
                for word in WRONG.get(kind, []):
                    self.assert_told(" ".join(words[:at] + [word] + words[at + 1:]), False, False)

    def test_patterns(self):
        """Words of all kinds at each position, told by patterns that the tables make."""
        some = sorted({word for told in list(RIGHT.values()) + list(WRONG.values()) for word in told if len(word) < 70})
        met = {True: 0, False: 0}
        for row in DEEDS + OTHERS:
            words = some_command(row).split(" ")
            firsts = sorted({other.split(" ")[0] for other in DEEDS + OTHERS} | {"", "x", "surer", "rule"})
            for at in range(len(words)):
                for word in (firsts if at == 0 else []) + some + ["surer", "whole", "rule", "lessspread", "norules", "surerr"]:
                    value = " ".join(words[:at] + [word] + words[at + 1:])
                    told = [deed for pattern, deed in PATTERNS if pattern.fullmatch(value) and in_lowest_terms(value)]
                    self.assert_told(value, told != [], True in told)
                    met[told != []] += 1
        self.assertGreater(min(met.values()), 2000)

    def test_blanks_and_words(self):
        for row in DEEDS + OTHERS:
            command = some_command(row, 1)
            words = command.split(" ")
            bent = [command + " ", " " + command, command + "\n", command + " x", command + " 1", command + " -", command.upper(),
                    command.capitalize(), "\n" + command, command + ";", command + command, command + " " + command]
            bent += [command.replace(" ", "  ", 1), command.replace(" ", "\n", 1)] if len(words) > 1 else []
            if len(words) > 1:
                bent += [" ".join(words[:-1]), " ".join(words[1:])]
            for value in bent:
                told = value in ("states", "names")
                self.assert_told(value, told, False)

    def test_claims(self):
        for value in ("claim", "claim k", "claim k surer", "claim k surer v", "claim k whole v w", "claim surer v w", "claim k surer v w x",
                      "claim k Surer v w", "claim k surely v w", "claim K surer v w", "claim k rule p 1,1", "claim k rule p 0,1;1,0", "claim k  whole v",
                      "claim k whole  v", "claim k rule p 1;1 0,1;1,0", "claim k lessspread g", "claim k walk v w", "claim k claim v", "claim 1 whole v"):
            self.assert_told(value, False, False)
        for value in ("claim claim whole whole", "claim k rule p - -", "claim k surer v v", "claim k morespread g g"):
            self.assert_told(value, True, True)

    def test_any_value(self):
        for value in not_lists() + lists() + [Own(), lean(), b"undo", b"turn w", ["undo"], ("turn", "w"), ["turn w"], "", " ", "\n", "x", "Undo", "undoo"]:
            for asked in (is_command, is_deed):
                self.assertIs(asked(value), False)
                self.assertIs(asked(value=value), False)
        self.assertIs(is_command(value="undo"), True)
        self.assertIs(is_deed(value="undo"), False)

    def test_names(self):
        for value in NAMES:
            self.assertIs(is_name(value), True)
            self.assertIs(is_name(value=value), True)
        for sign in map(chr, range(32, 127)):
            self.assertIs(is_name(sign), "a" <= sign <= "z")
            self.assertIs(is_name("a" + sign), "a" <= sign <= "z" or "0" <= sign <= "9")
        for value in WRONG_NAMES + [value for value in not_lists() + lists() if not isinstance(value, str)] + [b"a", ["a"], ("a",), Own()]:
            self.assertIs(is_name(value), False)


if __name__ == "__main__":
    unittest.main()
