"""Claims, their contraries, which of them are true, and papers."""

import copy
import itertools
import unittest

from equations import plain, plains
from kinds import Own, any_walk, apart, backed, drawn, even_pairs, guess, halves, lean, like_pairs, lists, made, more_spread
from kinds import not_lists, proposals, ring_walk, turn, whole_walk
from refusals import assert_ratios, assert_refused, spoil, tupled
from surerwalks.claims import contrary, is_claim, is_paper_of, is_true, paper_of, words
from surerwalks.errors import InvalidClaim
from surerwalks.flows import flow
from surerwalks.orders import is_surer, is_surer_paper, is_worse_paper
from surerwalks.ratios import Ratio
from surerwalks.risings import is_surer_rising, is_worse_rising_paper
from surerwalks.rules import greatest_rule, half_rule
from surerwalks.spreads import is_hinge, is_less_spread, is_splitting
from surerwalks.walks import Walk, is_alike_backwards, is_whole, power

HALF = Ratio(1, 2)
WORDS = [("surer", "worse"), ("surerrising", "worserising"), ("whole", "shut"), ("backwards", "turned"),
         ("lessspread", "morespread"), ("rule", "norule")]
PAPERED = ["surer", "worse", "worserising", "shut", "turned", "lessspread", "morespread", "norule"]
SURE = [(1, 1)]
TWO = [(HALF, 0), (HALF, 2)]
ALWAYS, DRAWN, STAYS = ring_walk(2), halves(), Walk([[1, 0], [0, 1]], [HALF, HALF])
CHANGE, NUMBERS = [[0, 1], [1, 0]], [1, 2]


def parts_of(seed):
    """For each line of words parts of claims, some true and some not."""
    stream = made(seed)
    pairs = like_pairs(seed, 4) + even_pairs(seed + 1, 4)[::2]
    found = {pair: [] for pair in WORDS}
    for one, two in pairs:
        for pair in WORDS[:2]:
            found[pair] += [(one, two), (two, one)]
    lone = [any_walk(stream, places) for places in (2, 3, 4, 5, 6) for _ in range(4)] + [apart(), turn(), lean(), STAYS]
    lone += [whole_walk(stream, 6), power(ring_walk(6), 2), power(ring_walk(4), 2)]
    for pair in WORDS[2:4]:
        found[pair] = [(walk,) for walk in lone]
    for _ in range(12):
        one = guess(stream, 3)
        found[WORDS[4]] += [(one, guess(stream)), (one, more_spread(stream, one)), (more_spread(stream, one), one), (SURE, one)]
    for rows, numbers in proposals(seed + 2, 5, 3):
        greatest, half = greatest_rule(rows, numbers), half_rule(rows, numbers)
        places = range(len(rows))
        flat = [[Ratio(1)] * len(rows) for _ in places]
        bent = [[Ratio(stream.randint(0, 3), 3) for _ in places] for _ in places]
        found[WORDS[5]] += [(rows, numbers, taken) for taken in (greatest, half, flat, bent, [[0] * len(rows)] * len(rows))]
    return found


def truth_of(pair, parts):
    """Whether the first one is true, by the functions of the stages ahead or by sums made here."""
    if pair[0] == "surer":
        return is_surer(*parts)
    if pair[0] == "surerrising":
        return is_surer_rising(*parts)
    if pair[0] == "whole":
        return is_whole(*parts)
    if pair[0] == "backwards":
        return is_alike_backwards(*parts)
    if pair[0] == "lessspread":
        return is_less_spread(*parts)
    rows, numbers, taken = [plains(row) for row in parts[0]], plains(parts[1]), [plains(row) for row in parts[2]]
    places = range(len(rows))
    return all(numbers[i] * rows[i][j] * taken[i][j] == numbers[j] * rows[j][i] * taken[j][i] for i in places for j in places)


def is_right_paper(word, parts, value):
    """What the table lets as a paper, told again."""
    if word in ("surer", "worse", "worserising", "lessspread", "morespread"):
        judges = {"surer": is_surer_paper, "worse": is_worse_paper, "worserising": is_worse_rising_paper,
                  "lessspread": is_splitting, "morespread": is_hinge}
        return judges[word](*parts, value)
    if word == "shut":
        places = range(parts[0].places)
        if not isinstance(value, (list, tuple)) or not all(type(place) is int and place in places for place in value):
            return False
        lot = list(value)
        leaves = any(parts[0].rows()[i][j].sign for i in lot for j in places if j not in lot)
        return 0 < len(lot) < len(places) and lot == sorted(set(lot)) and not leaves
    if word in ("turned", "norule"):
        many = parts[0].places if word == "turned" else len(parts[0])
        if type(value) is not tuple or len(value) != 2 or not all(type(x) is int and 0 <= x < many for x in value):
            return False
        x, y = value
        if word == "turned":
            return flow(parts[0])[x][y] != flow(parts[0])[y][x]
        rows, numbers, taken = parts
        there, back = [plain(numbers[i]) * plain(rows[i][j]) * plain(taken[i][j]) for i, j in ((x, y), (y, x))]
        return there != back
    return False


def bent_papers(value):
    """Values made of a paper: some of them papers still."""
    found = [None, True, [], (), [value], (value,), value, str(value)]
    if isinstance(value, (list, tuple)):
        kind = type(value)
        found += [list(value), tuple(value), tupled(list(value)), value[:-1], value[1:], value[::-1], value + value, value + value[:1]]
        for at, part in enumerate(value):
            for other in bent_papers(part)[:12]:
                found.append(kind([*value[:at], other, *value[at + 1:]]))
    elif isinstance(value, Ratio):
        found += [value + 1, -value, value.over(2), value.top, value.bottom, Ratio(0)]
    elif isinstance(value, int):
        found += [value + 1, -value, Ratio(value), bool(value), float, value - 1]
    return found


class TestClaims(unittest.TestCase):
    def test_words(self):
        self.assertEqual(words(), WORDS)
        self.assertEqual({type(pair) for pair in words()}, {tuple})
        words().append("more")
        self.assertEqual(words(), WORDS)

    def test_just_one(self):
        met = {(word, told): 0 for pair in WORDS for word in pair for told in (True, False)}
        for pair, some in parts_of(621).items():
            for parts in some:
                told = truth_of(pair, parts)
                for word, right in ((pair[0], told), (pair[1], not told)):
                    claim = (word, *parts)
                    met[word, right] += 1
                    self.assertIs(is_claim(claim), True)
                    self.assertIs(is_true(claim), right)
                    self.assert_paper(word, parts, right)
                    self.assert_contrary(pair, word, parts)
        self.assertGreater(min(met.values()), 4, met)

    def assert_contrary(self, pair, word, parts):
        claim = (word, *parts)
        kept = copy.deepcopy(claim)
        found = contrary(claim)
        self.assertIs(type(found), tuple)
        self.assertEqual(found, (pair[1] if word == pair[0] else pair[0], *parts))
        self.assertEqual(contrary(found), claim)
        self.assertIs(is_claim(found), True)
        self.assertEqual(str(found), str((found[0], *parts)))
        for part in found[1:]:
            spoil(part)
        self.assertEqual(claim, kept)

    def assert_paper(self, word, parts, right):
        claim = (word, *parts)
        found = paper_of(claim)
        if not right or word not in PAPERED:
            self.assertIsNone(found)
            return
        self.assertIsNotNone(found)
        self.assertIs(is_paper_of(claim, found), True)
        self.assertIs(is_paper_of(contrary(claim), found), False)
        self.assertIs(is_right_paper(word, parts, found), True)
        self.assertEqual(paper_of(claim), found)
        kinds = {"shut": list, "turned": tuple, "norule": tuple, "morespread": Ratio}
        self.assertIs(type(found), kinds.get(word, list))
        if word in ("shut", "turned", "norule"):
            self.assertEqual({type(place) for place in found}, {int})
        else:
            assert_ratios(self, found)
        told = copy.deepcopy(found)
        spoil(found)
        self.assertEqual(paper_of(claim), told)

    def test_bent_papers(self):
        met = {(word, told): 0 for word in PAPERED for told in (True, False)}
        for pair, some in parts_of(622).items():
            for parts in some[::3]:
                for word, other in (pair, pair[::-1]):
                    found = paper_of((word, *parts))
                    for value in bent_papers(found) if found is not None else []:
                        told = is_right_paper(word, parts, value)
                        self.assertIs(is_paper_of((word, *parts), value), told)
                        met[word, told] += 1
                        # No value is a paper of both.
                        against = is_paper_of((other, *parts), value)
                        self.assertIs(against, is_right_paper(other, parts, value))
                        self.assertFalse(told and against)
        self.assertGreater(min(met.values()), 4, met)

    def test_papers_of_other_claims(self):
        stream = made(623)
        for pair, some in parts_of(624).items():
            told = [(parts, paper_of((word, *parts))) for word in pair for parts in some[::4]]
            for parts, _ in stream.sample(told, min(len(told), 8)):
                for _, value in told:
                    for word in pair:
                        self.assertIs(is_paper_of((word, *parts), value), is_right_paper(word, parts, value))

    def test_words_without_papers(self):
        for claim in (("surerrising", ALWAYS, DRAWN), ("whole", ALWAYS), ("backwards", ALWAYS), ("rule", CHANGE, NUMBERS, [[0, 0], [0, 0]])):
            self.assertIs(is_true(claim), True)
            self.assertIsNone(paper_of(claim))
            for value in [None, [], True, [0], (0, 1), [(1, [1, -1])], [0, 1], 1]:
                self.assertIs(is_paper_of(claim, value), False)

    def test_any_paper(self):
        claims = [("surer", ALWAYS, DRAWN), ("worse", DRAWN, ALWAYS), ("worserising", DRAWN, ALWAYS), ("shut", apart()), ("shut", ALWAYS),
                  ("turned", turn()), ("turned", DRAWN), ("lessspread", SURE, TWO), ("morespread", TWO, SURE),
                  ("norule", CHANGE, NUMBERS, [[0, 1], [1, 0]]), ("rule", CHANGE, NUMBERS, [[0, 1], [1, 0]])]
        for claim in claims:
            for value in not_lists() + lists() + [claim, [Own()], (Own(), Own()), lean(), [lean()]]:
                self.assertIs(is_paper_of(claim, value), is_right_paper(claim[0], claim[1:], value))

    def test_known_papers(self):
        told = [
            (("surer", ALWAYS, DRAWN), [(Ratio(1, 4), [1, -1])], [(Ratio(1, 4), [1, 1])]),
            (("worse", DRAWN, ALWAYS), [0, 1], [1, 1]),
            (("worse", DRAWN, ALWAYS), (1, 0), (1, 0, 0)),
            (("worserising", DRAWN, ALWAYS), [0, 1], [1, 0]),
            (("shut", apart()), [1], [0, 1]),
            (("shut", apart()), (0,), [1, 0]),
            (("shut", Walk([[1, 0, 0], [0, 0, 1], [0, 1, 0]], [Ratio(1, 3)] * 3)), [1, 2], [2, 1]),
            (("shut", Walk([[1, 0, 0], [0, 0, 1], [0, 1, 0]], [Ratio(1, 3)] * 3)), [0], [1]),
            (("turned", turn()), (0, 1), [0, 1]),
            (("turned", turn()), (2, 1), (1, 1)),
            (("turned", turn()), (0, 2), (0, 3)),
            (("turned", turn()), (1, 0), (True, 0)),
            (("turned", turn()), (0, 1), (0, -1)),
            (("lessspread", SURE, TWO), [[HALF, HALF]], [[0, 1]]),
            (("morespread", TWO, SURE), 1, 2),
            (("morespread", TWO, SURE), HALF, True),
            (("norule", CHANGE, NUMBERS, [[0, 1], [1, 0]]), (0, 1), [0, 1]),
            (("norule", CHANGE, NUMBERS, [[0, 1], [1, 0]]), (1, 0), (0, 0)),
            (("norule", CHANGE, NUMBERS, [[0, 1], [1, 0]]), (1, 0), (Ratio(1), 0)),
        ]
        for claim, right, wrong in told:
            self.assertIs(is_paper_of(claim, right), True)
            self.assertIs(is_paper_of(claim, wrong), False)
            self.assertIs(is_paper_of(contrary(claim), right), False)


class TestIsClaim(unittest.TestCase):
    def test_tuples(self):
        taken = [[0, 0], [0, 1]]
        good = [("surer", ALWAYS, DRAWN), ("worse", ALWAYS, ALWAYS), ("surerrising", DRAWN, ALWAYS), ("worserising", DRAWN, DRAWN),
                ("whole", apart()), ("shut", turn()), ("backwards", apart()), ("turned", lean()), ("lessspread", SURE, TWO),
                ("morespread", tuple(TWO), SURE), ("rule", CHANGE, NUMBERS, taken), ("norule", tupled(CHANGE), (1, HALF), tupled(taken)),
                ("rule", CHANGE, NUMBERS, [[1, 1], [1, 1]])]
        for claim in good:
            self.assertIs(is_claim(claim), True)
            for value in (list(claim), claim[:-1], claim + (1,), claim[1:], (claim,), (claim[0].upper(), *claim[1:]), (claim[0] + " ", *claim[1:]),
                          ("", *claim[1:]), (None, *claim[1:]), ((claim[0],), *claim[1:]), (claim[0].encode(), *claim[1:]), claim[::-1],
                          (Own(), *claim[1:]), claim + claim):
                self.assertIs(is_claim(value), False)
            for at in range(1, len(claim)):
                for part in not_lists() + lists() + [[[0, 1], [1, 2]], STAYS, Own(), [(1, 2)], [1, 0], [1, -1], [1, 2, 3]]:
                    value = claim[:at] + (part,) + claim[at + 1:]
                    self.assertIs(is_claim(value), self.is_right(value))

    def is_right(self, value):
        """Of what is put in nothing but a Walk makes a claim, where a Walk is wanted."""
        whole = {"surer": True, "worse": True, "surerrising": True, "worserising": True, "whole": False, "shut": False,
                 "backwards": False, "turned": False}
        if value[0] not in whole or not all(isinstance(part, Walk) for part in value[1:]):
            return False
        if not whole[value[0]]:
            return True
        return all(is_whole(part) for part in value[1:]) and value[1].shares() == value[2].shares()

    def test_pairs_of_walks(self):
        for word in ("surer", "worse", "surerrising", "worserising"):
            for one, two, told in [(ALWAYS, DRAWN, True), (ALWAYS, STAYS, False), (STAYS, ALWAYS, False), (STAYS, STAYS, False),
                                   (ALWAYS, turn(), False), (ALWAYS, lean(), False), (lean(), drawn(lean()), True), (turn(), backed(turn()), True),
                                   (apart(), lean(), False)]:
                self.assertIs(is_claim((word, one, two)), told)

    def test_rules(self):
        for word in ("rule", "norule"):
            for taken, told in [([[0, 0], [0, 0]], True), ([[1, 1], [1, 1]], True), (((HALF, 0), [1, Ratio(1, 3)]), True), ([[0, 0]], False),
                                ([[0, 2], [0, 0]], False), ([[0, -1], [0, 0]], False), ([[0, True], [0, 0]], False), ([[0, 0, 0]] * 2, False),
                                ([[0, 0], [0, None]], False), ([[0, 0]] * 3, False), ([0, 0], False), ("00", False)]:
                self.assertIs(is_claim((word, CHANGE, NUMBERS, taken)), told)
            for numbers in ([1], [1, 2, 3], [1, 0], [1, -1], [1, True], None, "12"):
                self.assertIs(is_claim((word, CHANGE, numbers, [[0, 0], [0, 0]])), False)
            for rows in ([[1]], [[1, 1], [0, 1]], [[1, 0]], None, lean(), [[1, 0], [0, True]]):
                self.assertIs(is_claim((word, rows, NUMBERS, [[0, 0], [0, 0]])), False)

    def test_any_value(self):
        for value in not_lists() + lists() + [("whole",), ("whole", None), ("whole", [lean()]), "whole", ["whole", lean()], ("a", lean()),
                                              (lean(),), (lean(), lean()), (Own(), Own()), ("surer", Own(), Own()), ("whole", Own())]:
            self.assertIs(is_claim(value), False)
            for asked in (is_true, contrary, paper_of):
                assert_refused(self, InvalidClaim, value, lambda: asked(value))
                assert_refused(self, InvalidClaim, value, lambda: asked(claim=value))
            for paper in (None, [0, 1], Own()):
                assert_refused(self, InvalidClaim, value, lambda: is_paper_of(value, paper))
                assert_refused(self, InvalidClaim, value, lambda: is_paper_of(claim=value, value=paper))

    def test_by_name(self):
        claim = ("shut", apart())
        self.assertIs(is_claim(value=claim), True)
        self.assertIs(is_true(claim=claim), True)
        self.assertEqual(contrary(claim=claim), ("whole", apart()))
        self.assertIs(is_paper_of(claim=claim, value=paper_of(claim=claim)), True)

    def test_contrary_as_passed(self):
        """The same parts: INTEGERS stay INTEGERS, tuples tuples, but new."""
        claim = ("rule", ([0, 1], (1, 0)), (1, Ratio(2)), [[0, 1], (HALF, 0)])
        found = contrary(claim)
        self.assertEqual(str(found), str(("norule", *claim[1:])))
        self.assertIs(type(found[1][0][1]), int)
        for one, two in itertools.chain([(claim[1][0], found[1][0]), (claim[3], found[3]), (claim[3][0], found[3][0])]):
            self.assertIsNot(one, two)
        spoil(found[3])
        self.assertEqual(claim[3], [[0, 1], (HALF, 0)])


if __name__ == "__main__":
    unittest.main()
