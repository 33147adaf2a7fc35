"""Single proposals, the roots of their walks, walks that draw anew, and those among others."""

import itertools
import unittest

from kinds import chances, drawn, lists, made, not_lists, weights
from refusals import assert_pure, assert_ratios, assert_refusals, assert_refused, assert_same_by_name
from surerwalks.errors import InvalidChances, InvalidWeights
from surerwalks.orders import is_surer
from surerwalks.ratios import Ratio
from surerwalks.rules import greatest_rule, walk_by
from surerwalks.singles import among_others, fresh, roots, single
from surerwalks.walks import is_alike_backwards, is_whole, power

HALF = Ratio(1, 2)
WRONG_LONE = not_lists() + lists() + [
    [1], [1] * 7, [1, 0], [1, -1], [1, Ratio(-1, 9)], [1, True], [1, None], [1, "2"], "12", [1, [2]], {0: 1, 1: 2}, [0, 0],
]
WRONG_WEIGHTS = WRONG_LONE + [[1, 2], [1, 2, 3, 4]]
WRONG_CHANCES = WRONG_LONE + [
    [HALF], [HALF, HALF, HALF], [HALF, HALF, 0], [1], [1, 1], [HALF, Ratio(1, 3)], [Ratio(3, 2), -HALF],
    [Ratio(1, 7)] * 7, [1, 0],
    [HALF, None], [True, False], [Ratio(1, 3), Ratio(1, 3), True],
]


def some(seed, times=8):
    """Chances above 0 and weights of two to six places."""
    stream = made(seed)
    return [(chances(stream, places, 5, 1), weights(stream, places)) for places in range(2, 7) for _ in range(times)]


def shares_of(numbers):
    return [number.over(Ratio.total(numbers)) for number in numbers]


def least(one, two):
    return one if one.is_below(two) else two


class TestSingle(unittest.TestCase):
    def test_rows(self):
        for told, numbers in some(151):
            walk, shares = single(told, numbers), shares_of(numbers)
            places = range(len(told))
            self.assertEqual(walk.shares(), shares)
            for i in places:
                row = [least(told[j], (shares[j] * told[i]).over(shares[i])) if i != j else Ratio(0) for j in places]
                row[i] = 1 - Ratio.total(row)
                self.assertEqual(walk.rows()[i], row)
            self.assertEqual(walk, walk_by([told] * len(told), numbers, greatest_rule([told] * len(told), numbers)))
            self.assertIs(is_whole(walk), True)
            self.assertIs(is_alike_backwards(walk), True)
            self.assertEqual(single(shares, numbers), fresh(numbers))

    def test_roots(self):
        for told, numbers in some(152):
            found = roots(told, numbers)
            self.assertIs(type(found), list)
            assert_ratios(self, found)
            self.assertEqual(len(found), len(told) - 1)
            self.assertTrue(all(two.is_at_most(one) for one, two in zip(found, found[1:])))
            self.assertTrue(all(Ratio(0).is_at_most(root) and root.is_below(1) for root in found))
            walk = single(told, numbers)
            # So many sums of powers tell all the roots.
            powers = [Ratio(1)] * len(found)
            for many in range(1, len(told) + 1):
                powers = [one * root for one, root in zip(powers, found)]
                rows = power(walk, many).rows()
                self.assertEqual(Ratio.total(powers) + 1, Ratio.total([row[i] for i, row in enumerate(rows)]))

    def test_roots_in_any_sequence(self):
        stream = made(153)
        for told, numbers in some(154, 4):
            orders = list(itertools.permutations(range(len(told))))
            for order in stream.sample(orders, min(len(orders), 6)):
                found = roots([told[i] for i in order], [numbers[i] for i in order])
                self.assertEqual(found, roots(told, numbers))

    def test_known_roots(self):
        self.assertEqual(roots([HALF, HALF], [1, 2]), [Ratio(1, 4)])
        self.assertEqual(roots([HALF, HALF], [3, 3]), [Ratio(0)])
        for places in range(2, 7):
            self.assertEqual(roots([Ratio(1, places)] * places, [5] * places), [Ratio(0)] * (places - 1))
        # Quotients that are alike stand in any sequence.
        third = Ratio(1, 3)
        self.assertEqual(roots([third] * 3, [1, 1, 2]), roots([third] * 3, [2, 1, 1]))
        self.assertEqual(roots([third] * 3, [1, 1, 2]), [Ratio(1, 3), Ratio(0)])

    def test_weights_times_a_number(self):
        for told, numbers in some(155, 3):
            more = [number * Ratio(7, 3) for number in numbers]
            self.assertEqual(single(told, more), single(told, numbers))
            self.assertEqual(roots(told, more), roots(told, numbers))
            self.assertEqual(fresh(more), fresh(numbers))
            self.assertEqual(among_others(more), among_others(numbers))


class TestFresh(unittest.TestCase):
    def test_rows(self):
        for _, numbers in some(156):
            walk, shares = fresh(numbers), shares_of(numbers)
            self.assertEqual(walk.shares(), shares)
            self.assertEqual(walk.rows(), [shares] * len(shares))
            self.assertEqual(walk, drawn(walk))

    def test_among_others(self):
        for _, numbers in some(157):
            walk, shares = among_others(numbers), shares_of(numbers)
            places = range(len(shares))
            self.assertEqual(walk.shares(), shares)
            for i in places:
                # The lesser of what is proposed there and, by the shares, back.
                row = [
                    least(shares[j].over(1 - shares[i]), shares[j].over(1 - shares[j])) if i != j else Ratio(0)
                    for j in places
                ]
                row[i] = 1 - Ratio.total(row)
                self.assertEqual(walk.rows()[i], row)
            self.assertIs(is_alike_backwards(walk), True)
            self.assertIs(is_whole(walk), True)
            self.assertIs(is_surer(walk, fresh(numbers)), True)
        for places in range(2, 7):
            told = [[Ratio(int(i != j), places - 1) for j in range(places)] for i in range(places)]
            self.assertEqual(among_others([3] * places).rows(), told)


class TestRefusals(unittest.TestCase):
    def test_refusals(self):
        lone = [("weights", [1, HALF, 3], InvalidWeights, WRONG_LONE)]
        for asked in (fresh, among_others):
            assert_refusals(self, asked, lone)
            assert_same_by_name(self, asked, lone)
            assert_pure(self, asked, [1, HALF, 3])
        told = [("chances", [Ratio(1, 3), HALF, Ratio(1, 6)], InvalidChances, WRONG_CHANCES),
                ("weights", [1, HALF, 3], InvalidWeights, WRONG_WEIGHTS)]
        for asked in (single, roots):
            assert_refusals(self, asked, told)
            assert_same_by_name(self, asked, told)
            assert_pure(self, asked, [Ratio(1, 3), HALF, Ratio(1, 6)], [1, HALF, 3])

    def test_as_many_as_chances(self):
        for numbers in ([1], [1, 2, 3], [1] * 6, []):
            for asked in (single, roots):
                assert_refused(self, InvalidWeights, numbers, lambda: asked([HALF, HALF], numbers))
        for numbers in ([1, 2], [1] * 6):
            self.assertEqual(fresh(numbers).places, len(numbers))
            self.assertEqual(among_others(tuple(numbers)).places, len(numbers))


if __name__ == "__main__":
    unittest.main()
