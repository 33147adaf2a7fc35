"""Orders: surer walks, differences, squares and functions that show them, costs, step forms."""

import copy
import itertools
import unittest

from kinds import Own, apart, backed, digits, drawn, even_pairs, even_walk, halves, like_pairs, lists, made, mixed_walk
from kinds import not_lists, not_numbers, ring_walk, six_digits, stayed, turn, whole_walk
from refusals import assert_pure, assert_ratios, assert_refusals, assert_same_by_name, assert_unlike, tupled
from surerwalks.errors import InvalidCost, InvalidWalk, NotWhole, UnlikePlaces, UnlikeShares
from surerwalks.forms import is_never_below
from surerwalks.orders import (
    difference, is_cheaper, is_surer, is_surer_paper, is_worse_paper, step_form, surer_squares, worse_function,
)
from surerwalks.ratios import Ratio
from surerwalks.strays import after, error, error_table, spread_table
from surerwalks.tables import turned
from surerwalks.walks import Walk, walk_of

HALF = Ratio(1, 2)
NOT_WALKS = not_lists()[:-1] + lists()
WRONG_COSTS = not_numbers() + [0, Ratio(0), -1, Ratio(-1, 9), -10 ** 100]
PLAIN = (difference, is_surer, surer_squares, worse_function)


def both_ways(pairs):
    return pairs + [(other, walk) for walk, other in pairs]


def added(parts, rows):
    return [
        [Ratio.total([size * line[i] * line[j] for size, line in parts]) for j in range(rows)]
        for i in range(rows)
    ]


def not_whole_pairs():
    """Pairs with like shares, one of them or both not whole, and which of them."""
    stays = Walk([[1, 0], [0, 1]], [HALF, HALF])
    return [(stays, halves()), (halves(), stays), (stays, stays)]


class TestDifference(unittest.TestCase):
    def test_difference(self):
        for walk, other in both_ways(like_pairs(81) + even_pairs(82, 5)):
            found = difference(walk, other)
            assert_ratios(self, found)
            told = [[two - one for one, two in zip(*rows)] for rows in zip(error_table(walk), error_table(other))]
            self.assertEqual(found, told)
            self.assertEqual(found, turned(found))

    def test_step_form(self):
        for walk, other in both_ways(like_pairs(83, 5) + even_pairs(84, 5) + not_whole_pairs()):
            found, shares = step_form(walk, other), walk.shares()
            assert_ratios(self, found)
            more = [
                [shares[i] * (other.rows()[i][j] - walk.rows()[i][j]) for j in range(walk.places)]
                for i in range(walk.places)
            ]
            told = [[(more[i][j] + more[j][i]).over(2) for j in range(walk.places)] for i in range(walk.places)]
            self.assertEqual(found, told)

    def test_steps_tell_of_walks_alike_backwards(self):
        met = {True: 0, False: 0}
        for walk, other in both_ways(even_pairs(85)):
            form = step_form(walk, other)
            surer = is_surer(walk, other)
            met[surer] += 1
            self.assertIs(surer, is_never_below(form))
            if all(form[i][j].sign <= 0 for i, j in itertools.permutations(range(walk.places), 2)):
                self.assertIs(surer, True)
        self.assertGreater(min(met.values()), 5)

    def test_steps_tell_of_two_steps(self):
        met = {True: 0, False: 0}
        for walk, other in both_ways(like_pairs(87, 4) + not_whole_pairs()):
            told = is_never_below(step_form(walk, other))
            met[told] += 1
            less = False
            for worths in itertools.product(range(-2, 3), repeat=walk.places):
                if worths[0] == 0:
                    first, second = [after(one, one.shares(), 2, worths) for one in (walk, other)]
                    less = less or second.is_below(first)
            if less:
                self.assertIs(told, False)
        self.assertGreater(min(met.values()), 3)


class TestSurer(unittest.TestCase):
    def test_just_one_of_both(self):
        met = {True: 0, False: 0}
        for walk, other in both_ways(like_pairs(88) + even_pairs(89)):
            surer, parts, worths = is_surer(walk, other), surer_squares(walk, other), worse_function(walk, other)
            met[surer] += 1
            self.assertIs(type(surer), bool)
            self.assertIs(parts is not None, surer)
            self.assertIs(worths is None, surer)
            if surer:
                self.assert_squares(walk, other, parts)
                self.assert_no_worse(walk, other)
            else:
                self.assert_worse(walk, other, worths)
                self.assertIs(is_surer_paper(walk, other, []), False)
        self.assertGreater(min(met.values()), 20)

    def assert_squares(self, walk, other, parts):
        self.assertIs(type(parts), list)
        self.assertLessEqual(len(parts), 400)
        for part in parts:
            self.assertIs(type(part), tuple)
            self.assertIs(type(part[1]), list)
            self.assertEqual((len(part), len(part[1])), (2, walk.places))
            self.assertEqual(part[0].sign, 1)
            assert_ratios(self, part)
        self.assertEqual(added(parts, walk.places), difference(walk, other))
        self.assertLessEqual(digits(parts), 2000)
        self.assertIs(is_surer_paper(walk, other, parts), True)
        self.assertIs(is_surer_paper(walk, other, tuple((size, tuple(line)) for size, line in parts)), True)

    def assert_no_worse(self, walk, other):
        stream = made(90)
        for _ in range(8):
            worths = [stream.randint(-9, 9) for _ in range(walk.places)]
            self.assertTrue(error(walk, worths).is_at_most(error(other, worths)))
            self.assertIs(is_worse_paper(walk, other, worths), False)

    def assert_worse(self, walk, other, worths):
        self.assertIs(type(worths), list)
        self.assertEqual(len(worths), walk.places)
        assert_ratios(self, worths)
        self.assertLessEqual(digits(worths), 2000)
        self.assertTrue(error(other, worths).is_below(error(walk, worths)))
        self.assertIs(is_worse_paper(walk, other, worths), True)
        self.assertIs(is_worse_paper(walk, other, tuple(worths)), True)
        self.assertIs(is_worse_paper(other, walk, worths), False)

    def test_itself(self):
        for walk, _ in like_pairs(91):
            self.assertIs(is_surer(walk, walk), True)
            self.assertIsNone(worse_function(walk, walk))
            self.assertIs(is_surer_paper(walk, walk, []), True)
            self.assertIs(is_surer_paper(walk, walk, ()), True)
            self.assertIs(is_surer_paper(walk, walk, [(1, [0] * walk.places)]), True)
            self.assertIs(is_surer_paper(walk, walk, [(0, [0] * walk.places)]), False)
            for worths in ([0] * walk.places, [1] * walk.places, list(range(walk.places))):
                self.assertIs(is_worse_paper(walk, walk, worths), False)

    def test_staying_is_worse(self):
        for walk, _ in like_pairs(92):
            lazy = stayed(walk, Ratio(2, 7))
            self.assertIs(is_surer(walk, lazy), True)
            self.assertIs(is_surer(lazy, walk), False)

    def test_backwards_alike(self):
        for walk, _ in like_pairs(93):
            self.assertIs(is_surer(walk, backed(walk)), True)
            self.assertIs(is_surer(backed(walk), walk), True)
            self.assertIs(is_surer(walk, mixed_walk(walk, backed(walk), HALF)), True)

    def test_none_is_surer(self):
        third = Ratio(1, 3)
        lot, line = walk_of([[third] * 3] * 3), walk_of([[HALF, HALF, 0], [HALF, 0, HALF], [0, HALF, HALF]])
        for walk, other in ((lot, line), (line, lot)):
            self.assertIs(is_surer(walk, other), False)
            self.assertIs(surer_squares(walk, other), None)
            self.assert_worse(walk, other, worse_function(walk, other))
        self.assertIs(is_worse_paper(lot, line, [0, 1, 0]), True)
        self.assertIs(is_worse_paper(line, lot, [0, 1, 2]), True)

    def test_long_numbers(self):
        stream = made(94)
        for places in range(2, 7):
            walk = six_digits(stream, places)
            half = mixed_walk(walk, backed(walk), HALF)
            for one, two in ((walk, half), (drawn(walk), half), (walk, stayed(walk, Ratio(123457, 999983))),
                             (mixed_walk(half, drawn(walk), Ratio(1, 999983)), half)):
                for first, second in ((one, two), (two, one)):
                    parts, worths = surer_squares(first, second), worse_function(first, second)
                    self.assertIs(parts is None, worths is not None)
                    if parts is None:
                        self.assert_worse(first, second, worths)
                    else:
                        self.assert_squares(first, second, parts)


class TestJudges(unittest.TestCase):
    def test_squares(self):
        swap, fair = ring_walk(2), halves()
        fourth = Ratio(1, 4)
        for value in [[(fourth, [1, -1])], ((fourth, (1, -1)),), [(1, [HALF, -HALF])], [(Ratio(1, 8), [1, -1])] * 2,
                      [(fourth, [-1, 1]), (5, [0, 0])], [(fourth, (Ratio(1), -1))]]:
            self.assertIs(is_surer_paper(swap, fair, value), True)
            self.assertIs(is_surer_paper(fair, swap, value), False)
        for value in [[(Ratio(1, 5), [1, -1])], [(fourth, [1, 1])], [(fourth, [1, -1]), (1, [1, 0])], [], [[fourth, [1, -1]]],
                      [(fourth, [1, -1], 0)], [(fourth, [1])], [(fourth, [1, -1, 0])], [(fourth, [True, -1])],
                      [(True, [HALF, -HALF])],
                      (fourth, [1, -1]), [(fourth, [1, None])], [(fourth, "1-")], [(fourth, {0: 1, 1: -1})],
                      [(-fourth, [1, -1])],
                      [(fourth, [1, -1]), (0, [1, 1])], {0: (fourth, [1, -1])}, [(str(fourth), [1, -1])],
                      [(fourth, [1, Own()])],
                      [(Own(), [1, -1])], [Own()], [(fourth, Own())], [(10 ** 199, [10 ** 199, -10 ** 199])], [None]]:
            self.assertIs(is_surer_paper(swap, fair, value), False)

    def test_other_papers(self):
        """One number, place or part of a paper otherwise."""
        for walk, other in like_pairs(95, 5)[2::8] + even_pairs(96, 5)[1::4]:
            parts = surer_squares(walk, other)
            if not parts:
                continue
            self.assertIs(is_surer_paper(walk, other, parts[::-1]), True)
            self.assertIs(is_surer_paper(walk, other, parts + parts[:1]), False)
            self.assertIs(is_surer_paper(walk, other, parts[1:]), False)
            for at, (size, line) in enumerate(parts):
                for part in [(size + 1, line), (size, line[:-1]), (size, line + [0]), (-size, line), [size, line],
                             (line, size),
                             (size, line[:-1] + [line[-1] + 1]), (size,), (size, line, line), (size, None), None,
                             (size, str(line))]:
                    self.assertIs(is_surer_paper(walk, other, parts[:at] + [part] + parts[at + 1:]), False)

    def test_functions(self):
        swap, fair = ring_walk(2), halves()
        for value in [[0, 1], (0, 1), [HALF, 0], (Ratio(3), -4), [10 ** 199, 1]]:
            self.assertIs(is_worse_paper(fair, swap, value), True)
            self.assertIs(is_worse_paper(swap, fair, value), False)
        for value in [[1, 1], [0, 0], [0], [0, 1, 0], [False, True], [0, True], [0, None], [0, "1"], "01",
                      {0: 0, 1: 1}, [[0, 1]], [(0, 1)],
                      [0, Own()], [Own(), Own()], [[0], [1]], [0, [1]]]:
            self.assertIs(is_worse_paper(fair, swap, value), False)

    def test_any_value(self):
        for places in (2, 3, 5):
            walk, other = ring_walk(places), drawn(ring_walk(places))
            for value in not_lists() + lists() + [walk, [walk] * places, [[1] * places] * places, [Own()], ((),), [[[]]]]:
                for judge in (is_surer_paper, is_worse_paper):
                    self.assertIs(judge(walk, other, value), False)
                    self.assertIs(judge(other, walk, value), False)

    def test_functions_told(self):
        for walk, other in both_ways(like_pairs(98, 5)):
            worths = worse_function(walk, other)
            if worths is not None:
                for value in [worths[:-1], worths + [0], [worths], [0] * walk.places, dict(enumerate(worths)),
                              worths[:-1] + [None]]:
                    self.assertIs(is_worse_paper(walk, other, value), False)


class TestCheaper(unittest.TestCase):
    def test_costs(self):
        stream = made(99)
        met = {True: 0, False: 0}
        for walk, other in both_ways(like_pairs(100, 5)):
            for _ in range(3):
                one, two = Ratio(stream.randint(1, 9), stream.randint(1, 4)), stream.randint(1, 9)
                rows = [
                    [two * second - one * first for first, second in zip(*both)]
                    for both in zip(error_table(walk), error_table(other))
                ]
                found = is_cheaper(walk, one, other, two)
                met[found] += 1
                self.assertIs(found, is_never_below(rows))
            self.assertIs(is_cheaper(walk, HALF, other, HALF), is_surer(walk, other))
        self.assertGreater(min(met.values()), 20)

    def test_known(self):
        for walk, _ in even_pairs(101, 4):
            lazy = stayed(walk, Ratio(1, 3))
            # Stays that cost nothing add the spread alone.
            self.assertIs(is_cheaper(walk, 1, lazy, Ratio(2, 3)), True)
            self.assertIs(is_cheaper(lazy, Ratio(2, 3), walk, 1), False)
            self.assertIs(is_cheaper(walk, 2, walk, 1), error_table(walk) == [[Ratio(0)] * walk.places] * walk.places)
            self.assertIs(is_cheaper(walk, 1, walk, 2), True)
        for cost in (1, 9, 10 ** 6, Ratio(1, 9)):
            self.assertIs(is_cheaper(ring_walk(2), cost, halves(), 1), True)
            self.assertIs(is_cheaper(halves(), 1, ring_walk(2), cost), False)
        self.assertEqual(error_table(halves()), spread_table(halves()))

    def test_refusals(self):
        walk, other = turn(), drawn(turn())
        told = [("walk", walk, InvalidWalk, NOT_WALKS), ("cost", HALF, InvalidCost, WRONG_COSTS),
                ("other", other, InvalidWalk, NOT_WALKS), ("other_cost", 3, InvalidCost, WRONG_COSTS)]
        assert_refusals(self, is_cheaper, told)
        assert_same_by_name(self, is_cheaper, told)
        assert_unlike(self, lambda one, two: is_cheaper(one, 1, two, 2))
        for one, two in not_whole_pairs():
            with self.assertRaises(NotWhole):
                is_cheaper(one, 1, two, 1)
            with self.assertRaises(InvalidCost):
                is_cheaper(one, 1, two, 0)
            with self.assertRaises(InvalidCost):
                is_cheaper(turn(), 0, two, 1)


class TestRefusals(unittest.TestCase):
    def test_walks(self):
        stream = made(102)
        walk = whole_walk(stream, 3)
        told = [("walk", walk, InvalidWalk, NOT_WALKS), ("other", backed(walk), InvalidWalk, NOT_WALKS)]
        for asked in PLAIN + (step_form,):
            assert_refusals(self, asked, told)
            assert_same_by_name(self, asked, told)
            assert_pure(self, asked, walk, backed(walk))
            assert_pure(self, asked, walk, stayed(walk, HALF))
            assert_pure(self, asked, stayed(walk, HALF), walk)
            assert_unlike(self, asked)
        for asked in (is_surer_paper, is_worse_paper):
            assert_refusals(self, asked, told + [("value", None, None, [])])
            for value in ([0, 1, 2], surer_squares(walk, stayed(walk, HALF)), None, "a"):
                assert_same_by_name(self, asked, told + [("value", value)])
                kept = copy.deepcopy(value)
                assert_pure(self, asked, walk, stayed(walk, HALF), value)
                self.assertEqual(value, kept)
                self.assertIs(asked(walk, backed(walk), value), asked(walk, backed(walk), tupled(value)))
            assert_unlike(self, asked, [])

    def test_not_whole(self):
        for one, two in not_whole_pairs():
            for asked in PLAIN:
                with self.assertRaises(NotWhole):
                    asked(one, two)
            for asked in (is_surer_paper, is_worse_paper):
                for value in ([], None, [0, 1]):
                    with self.assertRaises(NotWhole):
                        asked(one, two, value)
            assert_ratios(self, step_form(one, two))
        for asked in PLAIN:
            with self.assertRaises(UnlikePlaces):
                asked(apart(), turn())
            with self.assertRaises(UnlikeShares):
                asked(apart(), halves())
        self.assertEqual(step_form(*not_whole_pairs()[2]), [[Ratio(0)] * 2] * 2)

    def test_even_walks(self):
        """The walks that these tests make are what they are told to be."""
        stream = made(103)
        for places in range(2, 7):
            walk = even_walk(stream, [Ratio(1, places)] * places)
            self.assertEqual(backed(walk), walk)


if __name__ == "__main__":
    unittest.main()
