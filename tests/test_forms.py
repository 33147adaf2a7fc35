"""Forms: worth, squares and lists below, mild forms."""

import copy
import itertools
import unittest

from kinds import Own, digits, lists, made, not_lists, plain_kinds, ratio, whole_walk
from refusals import assert_ratios, assert_refusals, assert_refused, assert_same_by_name, tupled
from surerwalks.errors import InvalidForm, InvalidRow, TooMany
from surerwalks.forms import are_squares, below, is_mild, is_never_below, squares, unmild, worth
from surerwalks.ratios import Ratio
from surerwalks.strays import error_table
from surerwalks.tables import determinant
from surerwalks.walks import backwards, mixed, walk_of

WRONG = not_lists() + lists() + [
    [[1, 2], [3, 4]], [[1, Ratio(1, 2)], [Ratio(1, 3), 1]], [[1, 2]], [[1], [2]], [[1, 2], [2]], [[1, True], [True, 1]],
    [[0] * 13] * 13, [[0, None], [None, 0]], [[1, 2, 3], [2, 1, 3], [3, 2, 1]],
]


def form(stream, rows, size=9):
    found = [[Ratio(0)] * rows for _ in range(rows)]
    for i in range(rows):
        for j in range(i + 1):
            found[i][j] = found[j][i] = ratio(stream, size)
    return found


def added(parts, rows):
    """The form that squares are of."""
    return [
        [Ratio.total([size * line[i] * line[j] for size, line in parts]) for j in range(rows)]
        for i in range(rows)
    ]


def gram(stream, rows, rank, size=5):
    """A form that is never below 0, of at most this rank, often with noughts."""
    parts = []
    for _ in range(rank):
        line = [ratio(stream, size) * stream.choice([0, 1, 1]) for _ in range(rows)]
        parts.append((ratio(stream, size).size() + 1, line))
    return added(parts, rows)


def negative(rows):
    return [[-number for number in row] for row in rows]


def minors_tell(rows):
    """Whether no determinant of a part of the rows and the same columns is below 0."""
    many = range(len(rows))
    lots = [lot for k in many for lot in itertools.combinations(many, k + 1)]
    return all(determinant([[rows[i][j] for j in lot] for i in lot]).sign >= 0 for lot in lots)


def some_forms():
    stream = made(11)
    found = [[[0]], [[3]], [[-3]], [[0, 1], [1, 0]], [[0, 0], [0, 0]], [[0, 0], [0, -1]], [[1, 1], [1, 1]],
             [[0, 1], [1, -5]], [[0, -2], [-2, 7]], [[0, 0, 0], [0, 0, 1], [0, 1, 3]], [[1, 0, 0], [0, 0, 0], [0, 0, 2]],
             [[0] * 12 for _ in range(12)]]
    for rows in range(1, 8):
        found.append(form(stream, rows))
        for rank in range(rows + 2):
            one = gram(stream, rows, rank)
            found.append(one)
            other = copy.deepcopy(one)
            other[-1][-1] = other[-1][-1] - Ratio(1, 1000)
            found.append(other)
            found.append(negative(one))
    return found


class TestWorth(unittest.TestCase):
    def test_worth(self):
        stream = made(12)
        for rows in (1, 2, 5, 12):
            one, numbers = form(stream, rows), [ratio(stream) for _ in range(rows)]
            told = [one[i][j] * numbers[i] * numbers[j] for i in range(rows) for j in range(rows)]
            self.assertEqual(worth(one, numbers), Ratio.total(told))
        self.assertEqual(worth([[1, 2], [2, 1]], [1, -1]), Ratio(-2))
        self.assertIs(type(worth([[1]], [1])), Ratio)

    def test_refusals(self):
        wrong = not_lists() + lists() + [[1, 2, 3], [1, True], [1, None], (1, "2"), [[1], [2]]]
        one = ("form", [[1, 2], [2, 1]], InvalidForm, WRONG)
        assert_refusals(self, worth, [one, ("row", [1, 2], InvalidRow, wrong)])
        assert_same_by_name(self, worth, [("form", [[1, Ratio(2)], [2, 1]]), ("row", [Ratio(1, 2), 1])])


class TestSquares(unittest.TestCase):
    def test_just_one_of_both(self):
        for one in some_forms():
            rows = len(one)
            kept = copy.deepcopy(one)
            parts, under = squares(one), below(one)
            self.assertIs(is_never_below(one), parts is not None)
            self.assertIs(under is None, parts is not None)
            if parts is None:
                self.assertEqual((type(under), len(under)), (list, rows))
                assert_ratios(self, under)
                self.assertEqual(worth(one, under).sign, -1)
                self.assertLessEqual(digits(under), 2000)
            else:
                self.assert_squares_of(one, parts)
            self.assertEqual(one, kept)
            self.assertEqual((squares(one), below(one)), (parts, under))
            if rows < 6:
                self.assertIs(is_never_below(one), minors_tell(one))

    def assert_squares_of(self, one, parts):
        self.assertIs(type(parts), list)
        self.assertLessEqual(len(parts), 400)
        for part in parts:
            self.assertIs(type(part), tuple)
            self.assertIs(type(part[1]), list)
            self.assertEqual(part[0].sign, 1)
            self.assertEqual(len(part[1]), len(one))
            assert_ratios(self, part)
        told = [[Ratio(0) + number for number in row] for row in one]
        self.assertEqual(added(parts, len(one)), told)
        self.assertIs(are_squares(one, parts), True)
        self.assertIs(are_squares(tupled(one), [(size, tuple(line)) for size, line in parts]), True)
        self.assertLessEqual(digits(parts), 2000)

    def test_twelve_rows(self):
        stream = made(13)
        for rank in (1, 5, 11, 12):
            one = gram(stream, 12, rank, 999)
            self.assert_squares_of(one, squares(one))
            one[3][3] = one[3][3] - one[3][3].size() - 1
            self.assertEqual(worth(one, below(one)).sign, -1)

    def test_long_numbers(self):
        """Squares and lists stay short where those found first would have INTEGERS that are too long."""
        stream = made(14)
        for rows, rank, long in ((12, 12, 60), (6, 6, 180), (6, 4, 180), (2, 2, 370)):
            size = 10 ** long
            parts = [
                (Ratio(stream.randint(1, size), stream.randint(1, size)),
                 [Ratio(stream.randint(-size, size), size) for _ in range(rows)])
                for _ in range(rank)
            ]
            one = added(parts, rows)
            self.assertGreater(digits(one) * min(rank, 3), 2000)
            self.assertLess(digits(one), 1900)
            self.assert_squares_of(one, squares(one))
            one[-1][-1] = one[-1][-1] - Ratio(1, size)
            under = below(one)
            if under is None:
                self.assert_squares_of(one, squares(one))
            else:
                self.assertEqual(worth(one, under).sign, -1)
                self.assertLessEqual(digits(under), 2000)

    def test_long_numbers_nearly_flat(self):
        """So near to a form that has no inverse that squares need many digits, and so do lists below."""
        stream = made(20)
        size = 10 ** 300
        for rows, power in ((2, 12), (3, 20), (5, 30), (6, 60)):
            lines = [[Ratio(stream.randint(-size, size), size) for _ in range(rows)] for _ in range(rows - 1)]
            for row in lines:
                row[0] = row[0] * Ratio(10 ** 9, 10 ** 9 + stream.randint(1, 99))
            flat = added([(Ratio(1), line) for line in lines], rows)
            tiny = Ratio(1, 10 ** power)
            for less in (tiny, -tiny):
                one = [[number - (less if i == j else 0) for j, number in enumerate(row)] for i, row in enumerate(flat)]
                self.assertIs(is_never_below(one), less.sign < 0)
                if less.sign < 0:
                    self.assert_squares_of(one, squares(one))
                else:
                    under = below(one)
                    self.assertEqual(worth(one, under).sign, -1)
                    self.assertLessEqual(digits(under), 2000)

    def test_long_numbers_beside_noughts(self):
        """Ever nearer to a flat form, and noughts beside the diagonal: no square has the Ratio 0 or one below it."""
        size = 10 ** 600
        line = [Ratio(size // 3, size), Ratio(size // 7 * 6, size + 1), Ratio(size // 9 * 11, size + 2)]
        for power in range(36, 66):
            one = [[Ratio(0)] * 5 for _ in range(5)]
            for i in range(3):
                for j in range(3):
                    one[i][j] = line[i] * line[j] + (Ratio(1, 2 ** power) if i == j else 0)
            one[3][3], one[4][4] = Ratio(size + 7, size), Ratio(2)
            self.assert_squares_of(one, squares(one))

    def test_long_lists_below(self):
        stream = made(23)
        size = 10 ** 450
        lines = [[Ratio(stream.randint(-size, size), size) for _ in range(6)] for _ in range(5)]
        one = added([(Ratio(1), line) for line in lines], 6)
        one[5][5] = one[5][5] - Ratio(1, 10 ** 8)
        under = below(one)
        self.assertEqual(worth(one, under).sign, -1)
        self.assertEqual({number.sign for number in under}, {1, -1})
        self.assertLessEqual(digits(under), 2000)

    def test_noughts_in_the_diagonal(self):
        stream = made(24)
        for rows in range(2, 8):
            for _ in range(30):
                one = form(stream, rows, 4)
                for i in range(rows):
                    one[i][i] = Ratio(stream.choice([0, 0, 0, 5, -1])) if i else Ratio(0)
                    for j in range(i):
                        one[i][j] = one[j][i] = one[i][j] * stream.choice([0, 1])
                parts, under = squares(one), below(one)
                self.assertIs(parts is None, under is not None)
                if parts is None:
                    self.assertEqual(worth(one, under).sign, -1)
                else:
                    self.assert_squares_of(one, parts)

    def test_differences_of_error_tables(self):
        stream = made(15)
        for places in (3, 4, 5, 6):
            rows = []
            for _ in range(places):
                row = [Ratio(stream.randint(1, 150000), stream.randint(900000, 999999)) for _ in range(places - 1)]
                rows.append(row + [1 - Ratio.total(row)])
            walk = walk_of(rows)
            half = error_table(mixed(walk, backwards(walk), Ratio(1, 2)))
            more = [[one - other for one, other in zip(*both)] for both in zip(half, error_table(walk))]
            for one in (error_table(walk), half, more):
                self.assert_squares_of(one, squares(one))
            under = below(negative(more))
            self.assertEqual(worth(more, under).sign, 1)
            self.assertLessEqual(digits(under), 2000)
            if places < 6:
                under = unmild(negative(more))
                self.assertEqual(worth(more, under).sign, 1)
                self.assertLessEqual(digits(under), 2000)

    def test_are_squares(self):
        one = [[2, 1], [1, 2]]
        half = Ratio(1, 2)
        for value in [
            [(1, [1, 1]), (1, [1, 0]), (1, [0, 1])], [(half, [2, 1]), (Ratio(3, 2), [0, 1])],
            ((half, (2, 1)), (Ratio(3, 2), [0, 1])), [(1, [1, 1]), (Ratio(1), [1, 0]), (1, [0, 1]), (5, [0, 0])],
            [(4, [half, half]), (1, [1, 0]), (1, [0, -1])],
        ]:
            self.assertIs(are_squares(one, value), True)
        for value in [
            [], [(1, [1, 1])], [[1, [1, 1]], [1, [1, 0]], [1, [0, 1]]], [(1, [1, 1]), (1, [1, 0]), (1, [0, 1]), (0, [0, 0])],
            [(1, [1, 1]), (1, [1, 0]), (1, [0, 1]), (-1, [0, 0])], [(True, [1, 1]), (1, [1, 0]), (1, [0, 1])],
            [(1, [1, True]), (1, [1, 0]), (1, [0, 1])], [(1, [1, 1]), (1, [1, 0]), (1, [0, 1, 0])],
            [(1, [1, 1], 0), (1, [1, 0]), (1, [0, 1])], [(1, [1, 1]), (1, [1, 0]), (1,)], [(1, [2, 1]), (1, [0, 1])],
            [(1, 1), (1, [1, 0]), (1, [0, 1])], [(1, "11"), (1, [1, 0]), (1, [0, 1])], [(1, [1, 1]), (1, [1, 0]), None],
        ] + not_lists() + lists():
            self.assertIs(are_squares(one, value), False)
        self.assertIs(are_squares([[0]], []), True)
        self.assertIs(are_squares([[0]], ()), True)
        self.assertIs(are_squares([[0]], [(1, [0])]), True)
        for value in plain_kinds() + [[Own()], [(Own(), [1])], [(1, [Own()])], [(1, Own())], [[]], [()]]:
            self.assertIs(are_squares([[0]], value), False)
        self.assertIs(are_squares([[1]], [(1, [1])] * 2), False)

    def test_refusals(self):
        one = ("form", [[1, 2], [2, 1]], InvalidForm, WRONG)
        for asked in (is_never_below, squares, below, is_mild, unmild):
            assert_refusals(self, asked, [one])
            assert_same_by_name(self, asked, [("form", [[1, Ratio(2)], [2, 1]])])
            assert_same_by_name(self, asked, [("form", [[4, Ratio(2)], [2, 1]])])
        assert_refusals(self, are_squares, [one, ("value", None, None, [])])
        assert_same_by_name(self, are_squares, [("form", [[1, 2], [2, 1]]), ("value", 5)])

    def test_all_is_new(self):
        one = [[2, 1], [1, 2]]
        first, second = squares(one), squares(one)
        for size, line in first:
            line[0] = "changed"
        first.append(1)
        self.assertIs(are_squares(one, second), True)
        self.assertEqual(squares(one), second)
        under = below([[0, 1], [1, 0]])
        under[0] = "changed"
        self.assertEqual(worth([[0, 1], [1, 0]], below([[0, 1], [1, 0]])).sign, -1)


class TestMild(unittest.TestCase):
    def grid(self, rows, most):
        return [numbers for numbers in itertools.product(range(most), repeat=rows) if sum(numbers) > 0]

    def test_mild(self):
        stream = made(16)
        met = {True: 0, False: 0}
        for rows, most in ((1, 2), (2, 8), (3, 6), (4, 4), (5, 3)):
            points = self.grid(rows, most)
            for _ in range(40):
                one = [[0] * rows for _ in range(rows)]
                for i in range(rows):
                    one[i][i] = stream.randint(0, 4)
                    for j in range(i):
                        one[i][j] = one[j][i] = stream.randint(-2, 3)
                under = unmild(one)
                self.assertIs(is_mild(one), under is None)
                met[under is None] += 1
                if under is None:
                    for point in points:
                        told = sum(one[i][j] * point[i] * point[j] for i in range(rows) for j in range(rows))
                        self.assertGreaterEqual(told, 0)
                else:
                    self.assertEqual((type(under), len(under)), (list, rows))
                    assert_ratios(self, under)
                    self.assertTrue(all(number.sign >= 0 for number in under))
                    self.assertEqual(worth(one, under).sign, -1)
        self.assertGreater(min(met.values()), 20)

    def test_known(self):
        horn = [[1, -1, 1, 1, -1], [-1, 1, -1, 1, 1], [1, -1, 1, -1, 1], [1, 1, -1, 1, -1], [-1, 1, 1, -1, 1]]
        self.assertIs(is_mild(horn), True)
        self.assertIsNotNone(below(horn))
        for at in range(5):
            less = copy.deepcopy(horn)
            less[at][at] = Ratio(999, 1000)
            self.assertIs(is_mild(less), False)
            under = unmild(less)
            self.assertTrue(all(number.sign >= 0 for number in under))
            self.assertEqual(worth(less, under).sign, -1)
        for one, told in [
            ([[0]], True), ([[-1]], False), ([[0, 1], [1, 0]], True), ([[0, -1], [-1, 9]], False), ([[1, -1], [-1, 1]], True),
            ([[1, -2], [-2, 1]], False), ([[0] * 5] * 5, True), ([[1, -1], [-1, Ratio(99, 100)]], False),
        ]:
            self.assertIs(is_mild(one), told)
            self.assertIs(unmild(one) is None, told)

    def test_never_below_is_mild(self):
        stream = made(17)
        for rows in range(1, 6):
            for rank in range(1, rows + 1):
                one = gram(stream, rows, rank)
                self.assertIs(is_mild(one), True)
                more = [[number + stream.randint(0, 3) for number in row] for row in one]
                even = [[more[max(i, j)][min(i, j)] for j in range(rows)] for i in range(rows)]
                self.assertIs(is_mild(even), True)

    def test_long_lists_are_shortened(self):
        stream = made(18)
        size = 10 ** 400
        for rows in (3, 4, 5):
            one = [[0] * rows for _ in range(rows)]
            for i in range(rows):
                one[i][i] = Ratio(size + stream.randint(1, size // 5), size)
                for j in range(i):
                    one[i][j] = one[j][i] = Ratio(-stream.randint(size, 2 * size), 2 * size - i - j)
            under = unmild(one)
            self.assertIsNotNone(under)
            self.assertTrue(all(number.sign >= 0 for number in under))
            self.assertEqual(worth(one, under).sign, -1)
            self.assertLessEqual(digits(under), 2000)

    def test_too_many(self):
        for asked in (is_mild, unmild):
            for rows in (6, 12):
                with self.assertRaises(TooMany) as caught:
                    asked([[0] * rows] * rows)
                self.assertEqual((caught.exception.what, caught.exception.limit), ("rows", 5))
            uneven = [[0] * 6 for _ in range(6)]
            uneven[0][1] = 1
            assert_refused(self, InvalidForm, uneven, lambda: asked(uneven))


class TestErrorTables(unittest.TestCase):
    def test_never_below(self):
        stream = made(19)
        for places in range(2, 7):
            self.assertIs(is_never_below(error_table(whole_walk(stream, places))), True)


if __name__ == "__main__":
    unittest.main()
