"""Tables: products, turned tables, inverses, determinants."""

import copy
import itertools
import unittest

from kinds import lists, made, not_lists, ratio
from refusals import assert_ratios, assert_refusals, assert_same_by_name, tupled
from surerwalks.errors import InvalidTable, UnlikeSizes
from surerwalks.ratios import Ratio
from surerwalks.tables import determinant, inverse, product, turned


def table(stream, rows, whole=False):
    return [[stream.randint(-9, 9) if whole else ratio(stream) for _ in range(rows)] for _ in range(rows)]


def unit(rows):
    return [[Ratio(1 if i == j else 0) for j in range(rows)] for i in range(rows)]


def told_product(one, other):
    many = range(len(one))
    return [[Ratio.total([one[i][k] * other[k][j] for k in many]) for j in many] for i in many]


def told_determinant(rows):
    """The sum over all orders, each with its sign."""
    parts = []
    for order in itertools.permutations(range(len(rows))):
        part = Ratio(1)
        for i, j in itertools.combinations(order, 2):
            part = part * (1 if i < j else -1)
        for i, j in enumerate(order):
            part = part * rows[i][j]
        parts.append(part)
    return Ratio.total(parts)


def sizes():
    return range(1, 13)


WRONG = not_lists() + lists() + [
    [[1, 2]], [[1], [2]], [[1, 2], [3]], [[1, 2], [3, 4, 5]], [[1, 2], [3, True]], [[1, 2], [None, 4]],
    [[1, 2], 3], [[1, 2], "34"], [[1, 2], {0: 1, 1: 2}], [[0] * 13] * 13, [[0] * 12] * 13, [[]], "ab",
]


class TestTables(unittest.TestCase):
    def test_product(self):
        stream = made(2)
        for rows in sizes():
            for whole in (True, False):
                one, other = table(stream, rows, whole), table(stream, rows)
                found = product(one, other)
                self.assertEqual(found, told_product(one, other))
                assert_ratios(self, found)
                self.assertIs(type(found), list)
                self.assertEqual({type(row) for row in found}, {list})

    def test_turned(self):
        stream = made(3)
        for rows in sizes():
            one = table(stream, rows)
            found = turned(one)
            for i in range(rows):
                for j in range(rows):
                    self.assertEqual(found[i][j], one[j][i])
            self.assertEqual(turned(found), one)
            assert_ratios(self, turned(table(stream, rows, True)))

    def test_inverse(self):
        stream = made(4)
        for rows in sizes():
            for whole in (True, False):
                one = table(stream, rows, whole)
                one[0][0] = 100
                found = inverse(one)
                self.assertIsNotNone(found)
                assert_ratios(self, found)
                self.assertEqual(product(one, found), unit(rows))
                self.assertEqual(product(found, one), unit(rows))
                self.assertEqual(determinant(one) * determinant(found), Ratio(1))

    def test_no_inverse(self):
        stream = made(5)
        for rows in sizes():
            one = table(stream, rows)
            one[-1] = [Ratio(0)] * rows if rows < 3 else [one[0][j] * 2 - one[1][j] for j in range(rows)]
            for told in (one, turned(one), one[::-1]):
                self.assertEqual(determinant(told), Ratio(0))
                self.assertIsNone(inverse(told))
        self.assertIsNone(inverse([[0]]))

    def test_rows_that_must_be_swapped(self):
        self.assertEqual(determinant([[0, 1], [1, 0]]), Ratio(-1))
        self.assertEqual(determinant([[0, 1, 0], [0, 0, 1], [1, 0, 0]]), Ratio(1))
        self.assertEqual(inverse([[0, 2], [Ratio(1, 3), 0]]), [[Ratio(0), Ratio(3)], [Ratio(1, 2), Ratio(0)]])

    def test_determinant(self):
        stream = made(6)
        for rows in range(1, 6):
            for whole in (True, False):
                one = table(stream, rows, whole)
                self.assertEqual(determinant(one), told_determinant(one))
                self.assertIs(type(determinant(one)), Ratio)
        for rows in sizes():
            one, other = table(stream, rows), table(stream, rows)
            self.assertEqual(determinant(product(one, other)), determinant(one) * determinant(other))
            self.assertEqual(determinant(turned(one)), determinant(one))

    def test_long_numbers(self):
        stream = made(7)
        one = [[ratio(stream, 999999) for _ in range(12)] for _ in range(12)]
        self.assertEqual(product(one, inverse(one)), unit(12))

    def test_unlike_sizes(self):
        with self.assertRaises(UnlikeSizes):
            product([[1]], [[1, 2], [3, 4]])
        with self.assertRaises(UnlikeSizes):
            product(other=[[1]], table=[[1, 2], [3, 4]])

    def test_refusals(self):
        good = [[1, 2], [3, 4]]
        one = ("table", good, InvalidTable, WRONG)
        assert_refusals(self, product, [one, ("other", [[1]], InvalidTable, WRONG)])
        for asked in (turned, inverse, determinant):
            assert_refusals(self, asked, [one])

    def test_by_name_and_tuples(self):
        one = ("table", [[1, Ratio(2)], [3, 4]])
        assert_same_by_name(self, product, [one, ("other", [[0, 1], [Ratio(1, 2), 5]])])
        for asked in (turned, inverse, determinant):
            assert_same_by_name(self, asked, [one])

    def test_nothing_changes_and_all_is_new(self):
        for asked, told in [(product, 2), (turned, 1), (inverse, 1)]:
            one = [[Ratio(0), Ratio(1)], [Ratio(1), Ratio(0)]]
            passed = [one] * told
            kept = copy.deepcopy(one)
            first, second = asked(*passed), asked(*passed)
            self.assertEqual(one, kept)
            self.assertIsNot(first, second)
            for row in first:
                row[0] = "changed"
                for other in second + one:
                    self.assertIsNot(row, other)
            self.assertEqual(one, kept)
            self.assertEqual(asked(*passed), second)
            self.assertEqual(asked(*[tupled(value) for value in passed]), second)


if __name__ == "__main__":
    unittest.main()
