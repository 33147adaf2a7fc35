"""Grids: their shares, walks that redraw parts, the seen walk, given means, raw and given tables."""

import unittest

from equations import plain, plains, told_error
from kinds import Own, apart, function, lean, lists, made, not_integers, not_lists
from refusals import assert_pure, assert_ratios, assert_refusals, assert_refused, assert_same_by_name, tupled
from surerwalks.errors import InvalidFunction, InvalidGrid, InvalidWhich
from surerwalks.forms import is_never_below, worth
from surerwalks.parts import by_lot, given_means, given_table, grid_shares, raw_table, redraw, scan, seen
from surerwalks.ratios import Ratio
from surerwalks.strays import error_table
from surerwalks.tables import turned
from surerwalks.walks import Walk, backwards, is_alike_backwards, is_whole

SIZES = [(2, 2), (2, 3), (3, 2)]
ALL = [grid_shares, scan, by_lot, seen, raw_table, given_table]
WRONG_GRIDS = not_lists() + lists() + [
    [[1, 1]], [[1], [1]], [[1, 1], [1]], [[1], [1, 1]], [[1, 1], [1, 1, 1]], [[1, 1, 1], [1, 1]], [[1] * 3] * 3, [[1] * 4] * 2,
    [[1] * 2] * 4, [[1, 0], [1, 1]], [[1, 1], [1, -1]], [[1, 1], [Ratio(-1, 9), 1]], [[1, 1], [1, Ratio(0)]],
    [[1, True], [1, 1]], [[1, 1], [None, 1]], [[1, 1], "11"], [[1, 1], {0: 1, 1: 1}], [[1, 1], [1, Own()]],
    [[1, 1], [1, [1]]], [[], []], [[1, 1], []], {0: [1, 1], 1: [1, 1]}, [b"ab", b"ab"], [[1, 1], [1, "1"]], [[1, 1], lean()],
]


def grids(seed, times=6):
    """Grids of each size, made by chance."""
    stream = made(seed)
    return [
        [[Ratio(stream.randint(1, 9), stream.randint(1, 4)) for _ in range(columns)] for _ in range(rows)]
        for rows, columns in SIZES for _ in range(times)
    ] + [[[1, 2], [3, 4]], [[1, 1, 1], [1, 5, 1]], [[2, 3], [4, 6], [1, 1]]]


def fractions_of(grid):
    return [plains(row) for row in grid]


def flipped(rows):
    return [list(column) for column in zip(*rows)]


def told_redraw(grid, which):
    """The chances from pair to pair, by sums of the rows or the columns."""
    told = fractions_of(grid)
    pairs = [(i, j) for i in range(len(told)) for j in range(len(told[0]))]
    rows = []
    for i, j in pairs:
        row = []
        for k, m in pairs:
            if which == 0:
                row.append(told[k][m] / sum(line[m] for line in told) if m == j else 0)
            else:
                row.append(told[k][m] / sum(told[k]) if k == i else 0)
        rows.append(row)
    return rows


def multiplied(rows, others):
    return [[sum(a * b for a, b in zip(row, column)) for column in zip(*others)] for row in rows]


def told_spread(shares, worths):
    middle = sum(share * number for share, number in zip(shares, worths))
    return sum(share * (number - middle) ** 2 for share, number in zip(shares, worths))


def told_seen(grid):
    """The rows and shares of the seen walk, by sums over the second part between."""
    told = fractions_of(grid)
    rows = [
        [
            sum(line[j] / sum(line) * to[j] / sum(other[j] for other in told) for j in range(len(line)))
            for to in told
        ]
        for line in told
    ]
    whole = sum(sum(line) for line in told)
    return rows, [sum(line) / whole for line in told]


def told_means(grid, worths):
    told = fractions_of(grid)
    return [sum(a * b for a, b in zip(column, worths)) / sum(column) for column in zip(*told)]


class TestWalks(unittest.TestCase):
    def assert_walk(self, walk, rows, shares):
        self.assertIs(type(walk), Walk)
        self.assertEqual([plains(row) for row in walk.rows()], rows)
        self.assertEqual(plains(walk.shares()), shares)

    def test_shares(self):
        for grid in grids(201):
            told = [number for row in fractions_of(grid) for number in row]
            found = grid_shares(grid)
            self.assertIs(type(found), list)
            assert_ratios(self, found)
            self.assertEqual(plains(found), [number / sum(told) for number in told])

    def test_redraw(self):
        for grid in grids(202):
            shares = plains(grid_shares(grid))
            for which in (0, 1):
                walk = redraw(grid, which)
                self.assert_walk(walk, told_redraw(grid, which), shares)
                # Drawn anew twice is drawn anew; the other part stays.
                self.assertEqual([plains(row) for row in walk.rows()],
                                 multiplied([plains(row) for row in walk.rows()], [plains(row) for row in walk.rows()]))
                self.assertIs(is_alike_backwards(walk), True)
                self.assertIs(is_whole(walk), False)

    def test_scan_and_by_lot(self):
        for grid in grids(203):
            shares = plains(grid_shares(grid))
            first, second = told_redraw(grid, 0), told_redraw(grid, 1)
            self.assert_walk(scan(grid), multiplied(first, second), shares)
            half = [[(one + two) / 2 for one, two in zip(*rows)] for rows in zip(first, second)]
            self.assert_walk(by_lot(grid), half, shares)
            for walk in (scan(grid), by_lot(grid)):
                self.assertIs(is_whole(walk), True)
            self.assertIs(is_alike_backwards(by_lot(grid)), True)
            # Backwards the second part is redrawn first.
            self.assertEqual([plains(row) for row in backwards(scan(grid)).rows()], multiplied(second, first))

    def test_seen(self):
        for grid in grids(204):
            walk = seen(grid)
            self.assert_walk(walk, *told_seen(grid))
            self.assertEqual(walk.places, len(grid))
            self.assertIs(is_whole(walk), True)
            self.assertIs(is_alike_backwards(walk), True)

    def test_known(self):
        grid = [[1, 1], [1, 2]]
        half, third = Ratio(1, 2), Ratio(1, 3)
        self.assertEqual(redraw(grid, 0).rows()[3], [Ratio(0), third, Ratio(0), 1 - third])
        self.assertEqual(redraw(grid, 1).rows()[0], [half, half, Ratio(0), Ratio(0)])
        self.assertEqual(scan(grid).rows()[3], [third * half, third * half, Ratio(2, 9), Ratio(4, 9)])
        # Parts that tell nothing of each other: the seen walk draws anew.
        self.assertEqual(seen([[1, 2], [2, 4]]).rows(), [[third, 1 - third]] * 2)
        self.assertEqual(seen([[1, 2, 3], [1, 2, 3]]).rows(), [[half, half]] * 2)

    def test_times_a_number(self):
        for grid in grids(205, 3):
            more = [[number * Ratio(7, 3) for number in row] for row in grid]
            for asked in ALL:
                self.assertEqual(asked(more), asked(grid))
            for which in (0, 1):
                self.assertEqual(redraw(more, which), redraw(grid, which))
            worths = list(range(len(grid)))
            self.assertEqual(given_means(more, worths), given_means(grid, worths))

    def test_turned_about(self):
        for grid in grids(206, 3):
            about = flipped(grid)
            order = [i * len(grid) + j for j in range(len(grid)) for i in range(len(grid[0]))]
            self.assertEqual([grid_shares(about)[at] for at in order], grid_shares(grid))
            for which in (0, 1):
                rows = redraw(about, 1 - which).rows()
                self.assertEqual([[rows[i][j] for j in order] for i in order], redraw(grid, which).rows())
            rows = by_lot(about).rows()
            self.assertEqual([[rows[i][j] for j in order] for i in order], by_lot(grid).rows())


class TestTables(unittest.TestCase):
    def test_given_means(self):
        stream = made(207)
        for grid in grids(208):
            worths = function(stream, len(grid))
            found = given_means(grid, worths)
            self.assertIs(type(found), list)
            assert_ratios(self, found)
            self.assertEqual(plains(found), told_means(grid, plains(worths)))
            self.assertEqual(given_means(grid, [5] * len(grid)), [Ratio(5)] * len(grid[0]))

    def test_tables(self):
        stream = made(209)
        for grid in grids(210):
            raw, given = raw_table(grid), given_table(grid)
            for table in (raw, given):
                assert_ratios(self, table)
                self.assertEqual(table, turned(table))
                self.assertEqual([len(row) for row in table], [len(grid)] * len(grid))
            self.assertEqual(raw, error_table(seen(grid)))
            rows, shares = told_seen(grid)
            # The second parts that are drawn go by the grid turned about.
            seconds, columns = told_seen(flipped(grid))
            for worths in [function(stream, len(grid)) for _ in range(4)] + [[1] + [0] * (len(grid) - 1), [3] * len(grid)]:
                told = plains(worths)
                means = told_means(grid, told)
                self.assertEqual(plain(worth(raw, worths)), told_error(rows, shares, told))
                self.assertEqual(plain(worth(given, worths)), told_error(seconds, columns, means))
                more = plain(worth(raw, worths)) - plain(worth(given, worths))
                self.assertEqual(more, told_spread(shares, told) + told_spread(columns, means))
            less = [[one - two for one, two in zip(*lines)] for lines in zip(raw, given)]
            self.assertIs(is_never_below(less), True)
            self.assertIs(is_never_below(given), True)

    def test_known(self):
        grid = [[1, 1], [1, 2]]
        self.assertEqual(raw_table(grid)[0][0], Ratio(222, 875))
        self.assertEqual(given_table(grid)[0][1], Ratio(-37, 5250))
        # Parts that tell nothing of each other: the given means never stray.
        self.assertEqual(given_table([[1, 2], [2, 4]]), [[Ratio(0)] * 2] * 2)


class TestRefusals(unittest.TestCase):
    def test_refusals(self):
        grid = [[1, Ratio(2, 3), 3], [4, 5, 6]]
        told = [("grid", grid, InvalidGrid, WRONG_GRIDS)]
        for asked in ALL:
            assert_refusals(self, asked, told)
            assert_same_by_name(self, asked, told)
            if asked in (grid_shares, raw_table, given_table):
                assert_pure(self, asked, grid)
        which = ("which", 1, InvalidWhich, not_integers() + [2, -1, 10 ** 29])
        assert_refusals(self, redraw, told + [which])
        assert_same_by_name(self, redraw, told + [which])
        for value in (True, False, Ratio(0), Ratio(1), "0"):
            assert_refused(self, InvalidWhich, value, lambda: redraw(grid, value))
        worths = ("function", [Ratio(1, 2), 3], InvalidFunction, not_lists() + lists() + [
            [1, 2, 3], [1], [], [1, True], [1, None], [1, "2"], "12", {0: 1, 1: 2}, [1, [2]], [Own(), 1], apart(),
        ])
        assert_refusals(self, given_means, told + [worths])
        assert_same_by_name(self, given_means, told + [worths])
        assert_pure(self, given_means, grid, [Ratio(1, 2), 3])

    def test_as_many_worths_as_first_parts(self):
        self.assertEqual(len(given_means([[1, 1], [1, 1], [1, 1]], [1, 2, 3])), 2)
        for grid, worths in (([[1, 1], [1, 1], [1, 1]], [1, 2]), ([[1, 1, 1], [1, 1, 1]], [1, 2, 3])):
            assert_refused(self, InvalidFunction, worths, lambda: given_means(grid, worths))

    def test_sizes(self):
        """2 by 2, 2 by 3 and 3 by 2, and no others."""
        for rows in range(8):
            for columns in range(8):
                grid = [[1] * columns for _ in range(rows)]
                for value in (grid, tupled(grid)):
                    if (rows, columns) in SIZES:
                        self.assertEqual(grid_shares(value), [Ratio(1, rows * columns)] * (rows * columns))
                        self.assertEqual(scan(value).places, rows * columns)
                    else:
                        assert_refused(self, InvalidGrid, value, lambda: grid_shares(value))


if __name__ == "__main__":
    unittest.main()
