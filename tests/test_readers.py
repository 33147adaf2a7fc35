"""Written forms read back, and the wrong lines of other strings."""

import math
import re
import unittest
from fractions import Fraction

from kinds import Own, lean, lists, made, plain_kinds, retold, samples
from refusals import spoil
from surerwalks.errors import InvalidText
from surerwalks.ratios import Ratio
from surerwalks.readers import read
from surerwalks.texts import is_of_sort, written
from surerwalks.walks import Walk

NUMBER = re.compile("(0|-?[1-9][0-9]*)(?:/([1-9][0-9]*))?")
COUNT = re.compile("0|[1-9][0-9]*")
BAD, OPEN, DONE = "bad", "open", "done"


def numbers_in(words):
    """The numbers of the words, None if one of them is none: told by a pattern."""
    found = []
    for word in words:
        match = NUMBER.fullmatch(word)
        if not match:
            return None
        top, bottom = int(match[1]), int(match[2] or 1)
        if match[2] and (bottom < 2 or math.gcd(top, bottom) > 1):
            return None
        found.append(Fraction(top, bottom))
    return found


def sizes_let(sort, words):
    if not all(COUNT.fullmatch(word) for word in words):
        return False
    sizes = tuple(int(word) for word in words)
    if sort == "grid":
        return sizes in [(2, 2), (2, 3), (3, 2)]
    return len(sizes) == 1 and (1 if sort == "table" else 2) <= sizes[0] <= (12 if sort == "table" else 6)


def judged(lines):
    """Whether some lines, each with its line feed, are wrong at the last one, or go on, or are done."""
    sort, *words = lines[0].split(" ")
    behind = [line.split(" ") for line in lines[1:]]
    if sort in ("numbers", "function"):
        numbers = numbers_in(words)
        least, most = (0, 60) if sort == "numbers" else (2, 6)
        right = numbers is not None and least <= len(numbers) <= most
        return (BAD if behind else DONE) if right else BAD
    if sort == "guess":
        return BAD if words else judged_guess(behind)
    if sort not in ("table", "walk", "proposal", "grid") or not sizes_let(sort, words):
        return BAD
    rows, many = [], int(words[-1])
    wanted = int(words[0])
    for line in behind:
        if len(rows) == wanted + (sort == "walk"):
            return BAD
        numbers = numbers_in(line[1:])
        if line[0] != ("row" if len(rows) < wanted else "shares") or numbers is None or len(numbers) != many:
            return BAD
        if sort == "grid" and min(numbers) <= 0:
            return BAD
        if sort in ("walk", "proposal") and (min(numbers) < 0 or sum(numbers) != 1):
            return BAD
        rows.append(numbers)
    if len(rows) == wanted + 1:
        *table, shares = rows
        kept = [sum(share * row[j] for share, row in zip(shares, table)) for j in range(many)]
        return DONE if min(shares) > 0 and kept == shares else BAD
    return DONE if sort != "walk" and len(rows) == wanted else OPEN


def judged_guess(behind):
    chances, worths = [], []
    for line in behind:
        numbers = numbers_in(line[1:])
        if line[0] != "part" or numbers is None or len(numbers) != 2 or len(chances) == 4:
            return BAD
        chance, worth = numbers
        if chance <= 0 or sum(chances) + chance > 1 or worth < 0 or worths and worth <= worths[-1]:
            return BAD
        chances.append(chance)
        worths.append(worth)
    return DONE if sum(chances) == 1 and sum(a * b for a, b in zip(chances, worths)) == 1 else OPEN


def wrong_line(text):
    """The wrong line by the words of the document, None of a written form."""
    *lines, rest = text.split("\n")
    for many in range(1, len(lines) + 1):
        if judged(lines[:many]) == BAD:
            return many
    if not lines or rest != "" or judged(lines) != DONE:
        return len(lines) + 1
    return None


def line_bends(stream, line):
    """A line changed: signs put in, taken away, exchanged; words put in, taken away, twice."""
    words = line.split(" ")
    at = stream.randrange(len(words))
    found = [line + " ", " " + line, line + " 1", line.replace(" ", "  ", 1), line.upper(), line + "\r", "", line[:-1], line[1:]]
    for word in ("0", "1", "-1", "-0", "00", "01", "1/1", "2/4", "0/2", "1/0", "1/-2", "-1/2", "1/2", "+1", "1_0", "1.0", "--1", "1/",
                 "/2", "-", "x", "row", "1/2/3", "1e2", "1/02", "5/3"):
        found.append(" ".join(words[:at] + [word] + words[at + 1:]))
    found += [" ".join(words[:at] + words[at + 1:]), " ".join(words[:at] + [words[at]] * 2 + words[at + 1:]),
              " ".join(words[::-1])]
    for sign in "0123456789-/ abrow":
        spot = stream.randrange(len(line) + 1)
        found += [line[:spot] + sign + line[spot:], line[:spot] + sign + line[spot + 1:]]
    return found


def bends(stream, text):
    """A text changed: lines bent, taken away, twice, exchanged, at another place, without a line feed."""
    lines = text.split("\n")[:-1]
    found = [text[:-1], text + "\n", text + " ", text + "x", text + lines[-1] + "\n", text + text, text + lines[0], text * 3,
             "\n" + text, " " + text, text[:-1] + " \n", text[:-1] + "\n ", text.replace("\n", " "), text.replace("\n", "\n\n", 1)]
    for at, line in enumerate(lines[:4] + lines[4:][-2:]):
        at = lines.index(line, at if at < 4 else 0)
        rest = lines[:at] + lines[at + 1:]
        other = stream.randrange(len(rest) + 1)
        found.append("\n".join(rest + [""]))
        found.append("\n".join(lines[:at + 1] + [line] + lines[at + 1:] + [""]))
        found.append("\n".join(rest[:other] + [line] + rest[other:] + [""]))
        found.append("\n".join(lines[:at + 1]))
        found.append("\n".join(lines[:at + 1] + [""]))
        for bent in line_bends(stream, line):
            found.append("\n".join(lines[:at] + [bent] + lines[at + 1:] + [""]))
    return found


class TestRead(unittest.TestCase):
    def assert_read(self, text):
        """As the oracle says; what is read is written so again."""
        line = wrong_line(text)
        if line is None:
            sort, value = read(text)
            self.assertIs(is_of_sort(sort, value), True)
            self.assertEqual(written(sort, value), text)
            return True
        with self.assertRaises(InvalidText, msg=repr(text)) as caught:
            read(text)
        self.assertIs(type(caught.exception), InvalidText)
        self.assertEqual(caught.exception.line, line, repr(text))
        self.assertIs(type(caught.exception.line), int)
        return False

    def test_back(self):
        for sort, values in samples().items():
            for value in values:
                text = written(sort, value)
                found = read(text)
                self.assertIs(type(found), tuple)
                self.assertEqual(found, (sort, retold(value)))
                self.assert_kinds(sort, found[1])
                self.assertEqual(read(text=text), found)
                spoil(found[1])
                self.assertEqual(read(text), (sort, retold(value)))

    def assert_kinds(self, sort, value):
        """All numbers Ratios, lists lists, tuples tuples."""
        if sort == "walk":
            self.assertIs(type(value), Walk)
        else:
            inner = [value] if sort in ("numbers", "function") else value
            kind = tuple if sort == "guess" else list
            self.assertIs(type(value), list)
            self.assertTrue(all(type(row) is kind for row in inner))
            self.assertTrue(all(type(number) is Ratio for row in inner for number in row))

    def test_bent(self):
        stream = made(611)
        met = {True: 0, False: 0}
        for sort, values in samples().items():
            for value in values:
                if sum(len(line) for line in written(sort, value)) > 3000:
                    continue
                for text in bends(stream, written(sort, value)):
                    met[self.assert_read(text)] += 1
        self.assertGreater(met[True], 40)
        self.assertGreater(met[False], 3000)

    def test_bent_twice(self):
        stream = made(612)
        for sort, values in samples().items():
            for value in values[:4]:
                text = written(sort, value)
                if len(text) < 400:
                    for one in stream.sample(bends(stream, text), 12):
                        for two in stream.sample(bends(stream, one if one.endswith("\n") else text), 12):
                            self.assert_read(two)

    def test_wrong_lines(self):
        """As the words tell, one after the other."""
        told = {
            1: ["", "\n", "x", "numbers", "numbers 1", "numbers \n", "numbers  1\n", "numbers 1 -0\n", "numbers 2/4\n", "number 1\n",
                "function\n", "function 1\n", "function 1 2 3 4 5 6 7\n", "Numbers 1\n", "numbers" + " 1" * 61 + "\n", "table\n", "table 0\n",
                "table 13\n", "table 01\nrow 1\n", "table 1 1\nrow 1\n", "table x\n", "walk 1\nrow 1\nshares 1\n", "walk 7\n", "walk -2\n",
                "proposal 1\nrow 1\n", "proposal 7\n", "guess 1\npart 1 1\n", "guess \n", "grid 2\n", "grid 3 3\n", "grid 1 2\n", "grid 2 4\n",
                "grid 2 2 \n", "row 1\n", "table 1\r\n", "walk 2/1\n", "table " + "9" * 200 + "\n", "shares 1\n", "part 1 1\n"],
            2: ["numbers 1\n\n", "numbers 1\nx", "numbers\nnumbers\n", "function 1 2\n ", "table 1\n", "table 1\nrow 1", "table 1\nrow\n",
                "table 1\nrow 1 2\n", "table 1\nrows 1\n", "table 1\nrow 1/1\n", "walk 2\n", "walk 2\nrow 1 1\n", "walk 2\nrow 2 -1\n",
                "walk 2\nshares 1/2 1/2\n", "proposal 2\nrow 1/2 1/3\n", "proposal 2\nrow 1 0 0\n", "guess\n", "guess\npart 1 1", "guess\npart 0 1\n",
                "guess\npart 2 1\n", "guess\npart 1 -1\n", "guess\npart 1\n", "guess\npart 1 1 1\n", "guess\nrow 1 1\n", "grid 2 2\nrow 1 0\n",
                "grid 2 2\nrow 1 -1\nrow 1 1\n", "grid 2 3\nrow 1 1\n", "guess\n\n", "walk 2\nrow 0 1 \n"],
            3: ["table 1\nrow 1\n\n", "table 1\nrow 1\nrow 1\n", "table 2\nrow 1 2\n", "table 2\nrow 1 2\nrow 3\n", "walk 2\nrow 0 1\n",
                "walk 2\nrow 0 1\nrow 1 1\n", "guess\npart 1 2\n", "guess\npart 1/2 1\n", "guess\npart 1 1\n\n", "guess\npart 1 1\npart 1 2\n",
                "guess\npart 1/2 1\npart 1/2 1\n", "guess\npart 1/2 2\npart 1/2 0\n", "guess\npart 1/2 0\npart 2/3 3\n",
                "guess\npart 1 1\nx", "guess\npart 1/2 0\npart 1/2 2", "grid 2 2\nrow 1 1\n", "grid 2 2\nrow 1 1\nrow 1 0\n"],
            4: ["walk 2\nrow 0 1\nrow 1 0\n", "walk 2\nrow 0 1\nrow 1 0\nshares 1/3 2/3\n", "walk 2\nrow 0 1\nrow 1 0\nshares 1 0\n",
                "walk 2\nrow 1 0\nrow 0 1\nshares 1/2 1/3\n", "walk 2\nrow 1 0\nrow 0 1\nshares 3/2 -1/2\n", "walk 2\nrow 0 1\nrow 1 0\nrow 1/2 1/2\n",
                "walk 2\nrow 0 1\nrow 1 0\nshares 1/2 1/2", "walk 2\nrow 0 1\nrow 1 0\nshares 1/2 1/2 0\n", "guess\npart 1/2 0\npart 1/2 1\n",
                "grid 2 2\nrow 1 1\nrow 1 1\n\n", "proposal 2\nrow 0 1\nrow 0 1\nrow 0 1\n", "guess\npart 1/2 0\npart 1/2 2\npart 1/9 3\n"],
            5: ["walk 2\nrow 0 1\nrow 1 0\nshares 1/2 1/2\nshares 1/2 1/2\n", "walk 2\nrow 0 1\nrow 1 0\nshares 1/2 1/2\n\n"],
            6: ["guess\npart 1/9 0\npart 1/9 1/3\npart 1/9 1/2\npart 1/9 1\n", "guess\npart 1/9 0\npart 1/9 1/3\npart 1/9 1/2\npart 1/9 1\npart 1/9 2\n"],
        }
        for line, texts in told.items():
            for text in texts:
                self.assertEqual(wrong_line(text), line, repr(text))
                self.assert_read(text)
        for text in ("numbers\n", "numbers 0\n", "function 1 2\n", "table 1\nrow 1\n", "guess\npart 1 1\n"):
            self.assertIs(self.assert_read(text), True)

    def test_no_strings(self):
        for value in plain_kinds() + lists() + [0, 1, Ratio(1, 2), lean(), b"numbers\n", ["numbers\n"], ("numbers\n",), Own()]:
            if not isinstance(value, str):
                with self.assertRaises(InvalidText) as caught:
                    read(value)
                self.assertEqual((type(caught.exception), caught.exception.line), (InvalidText, 0))

    def test_long(self):
        text = "numbers " + "7" * 1990 + "/" + "3" * 1000 + "8 -" + "9" * 900 + "\n"
        self.assert_read(text)
        self.assert_read("table 12\n" + "row" + " 0" * 12 + "\n")


if __name__ == "__main__":
    unittest.main()
