"""Walks: made, told, backwards, put together, renamed."""

import itertools
import unittest

from kinds import any_walk, apart, chances, lean, lists, made, not_integers, not_lists, not_numbers, turn, walks
from refusals import assert_refusals, assert_refused, assert_same_by_name
from surerwalks.errors import InvalidMany, InvalidOrder, InvalidPart, InvalidRows, InvalidShares, InvalidWalk
from surerwalks.errors import NotWhole, UnlikePlaces, UnlikeShares
from surerwalks.flows import with_ring
from surerwalks.ratios import Ratio
from surerwalks.walks import (
    Walk, backwards, closed_lot, is_alike_backwards, is_whole, lazy, mixed, power, renamed, then, walk_of,
)

HALF = Ratio(1, 2)
WRONG_ROWS = not_lists() + lists() + [
    [[1]], [[HALF, HALF]], [[1, 0], [0, 1, 0]], [[1, 0], [1]], [[1, 0], [0, 2]], [[2, -1], [0, 1]], [[1, 0], [0, HALF]],
    [[1, 0], [True, False]], [[1, 0], [None, 1]], [[1, 0], "01"], [[1, 0], {0: 0, 1: 1}], [[0, 0], [0, 0]],
    [[1, 0, 0], [0, 1, 0]], [[1] + [0] * 6] * 7, [[Ratio(3, 2), Ratio(-1, 2)], [0, 1]], [(1, 0), (0, "1")],
]
WRONG_SHARES = not_lists() + lists() + [
    [HALF], [HALF, HALF, 0], [1, 0], [HALF, Ratio(1, 3)], [HALF, 1], [Ratio(3, 2), Ratio(-1, 2)], [HALF, True],
    [HALF, None], [1, 1], [HALF, HALF],
]
NOT_WALKS = not_lists()[:-1] + lists()
WRONG_PARTS = not_numbers() + [-1, 2, Ratio(-1, 9), Ratio(10, 9), 10 ** 100]


def two():
    """Two walks with as many places and like shares, neither of them alike backwards."""
    return turn(), mixed(backwards(turn()), power(turn(), 0), Ratio(1, 3))


def likes(seed):
    """Pairs of walks with like shares, whole or not."""
    stream = made(seed)
    for places in range(2, 7):
        for _ in range(4):
            yield any_walk(stream, places), any_walk(stream, places)
    for walk in walks(seed):
        yield walk, backwards(walk)


def told_reached(rows, lot):
    """Whether a chance above 0 leads out of the lot."""
    return any(rows[i][j].sign > 0 for i in lot for j in range(len(rows)) if j not in lot)


class TestWalk(unittest.TestCase):
    def test_told(self):
        walk = Walk([[0, 1], (HALF, HALF)], (Ratio(1, 3), Ratio(2, 3)))
        self.assertEqual(walk.places, 2)
        self.assertIs(type(walk.places), int)
        self.assertEqual(walk.rows(), [[Ratio(0), Ratio(1)], [HALF, HALF]])
        self.assertEqual(walk.shares(), [Ratio(1, 3), Ratio(2, 3)])
        self.assertEqual({type(one) for one in [walk.rows(), walk.rows()[1], walk.shares()]}, {list})
        for places in range(2, 7):
            stays = [[int(i == j) for j in range(places)] for i in range(places)]
            self.assertEqual(Walk(stays, [Ratio(1, places)] * places).places, places)

    def test_copies(self):
        rows, shares = [[0, 1], [1, 0]], [HALF, HALF]
        walk, same = Walk(rows, shares), Walk([[0, 1], [1, 0]], [HALF, HALF])
        rows[0][0], shares[0] = 1, 0
        rows.append(1)
        self.assertEqual(walk, same)
        told = walk.rows()
        told[0][0] = 1
        told.append(1)
        walk.shares()[0] = 1
        self.assertEqual(walk, same)
        self.assertEqual(walk.rows(), [[Ratio(0), Ratio(1)], [Ratio(1), Ratio(0)]])

    def test_equal(self):
        self.assertTrue(lean() == lean())
        self.assertFalse(lean() != lean())
        self.assertFalse(lean() == turn())
        shares = [Ratio(1, 3), Ratio(2, 3)]
        self.assertFalse(apart() == Walk([[1, 0], [0, 1]], [HALF, HALF]))
        self.assertFalse(apart() == Walk([[Ratio(1, 3), Ratio(2, 3)], [Ratio(1, 3), Ratio(2, 3)]], shares))
        for value in NOT_WALKS + [apart().rows(), (apart().rows(), apart().shares())]:
            self.assertIs(apart() == value, False)
            self.assertIs(apart() != value, True)

    def test_refusals(self):
        assert_refusals(self, Walk, [
            ("rows", lean().rows(), InvalidRows, WRONG_ROWS), ("shares", lean().shares(), InvalidShares, WRONG_SHARES),
        ])
        # Shares that the rows keep, but one of them is 0, or below it.
        for rows, shares in [([[1, 0], [HALF, HALF]], [1, 0]), ([[1, 0], [0, 1]], [0, 1]), ([[1, 0], [0, 1]], [2, -1])]:
            assert_refused(self, InvalidShares, shares, lambda: Walk(rows, shares))
        walk = Walk(shares=(Ratio(1, 3), Ratio(2, 3)), rows=((HALF, HALF), (Ratio(1, 4), Ratio(3, 4))))
        self.assertEqual(walk, lean())

    def test_methods_stand_in_the_class(self):
        for name in ["places", "rows", "shares"]:
            self.assertIn(name, vars(Walk))


class TestWalkOf(unittest.TestCase):
    def test_only_shares(self):
        stream = made(21)
        for places in range(2, 7):
            for _ in range(6):
                rows = [chances(stream, places, 3) for _ in range(places)]
                lots = [lot for k in range(1, places) for lot in itertools.combinations(range(places), k)]
                if all(told_reached(rows, lot) for lot in lots):
                    walk = walk_of(rows)
                    self.assertEqual(walk.rows(), rows)
                    shares = walk.shares()
                    self.assertEqual(Ratio.total(shares), Ratio(1))
                    for place in range(places):
                        self.assertEqual(shares[place].sign, 1)
                        kept = Ratio.total([shares[i] * rows[i][place] for i in range(places)])
                        self.assertEqual(kept, shares[place])
                else:
                    with self.assertRaises(NotWhole):
                        walk_of(rows)

    def test_not_whole(self):
        for rows in [[[1, 0], [0, 1]], [[1, 0], [HALF, HALF]], [[HALF, HALF], [0, 1]], [[0, 1, 0], [1, 0, 0], [0, 0, 1]],
                     [[0, 1, 0], [1, 0, 0], [HALF, 0, HALF]], ((0, 1, 0), (0, HALF, HALF), (0, 1, 0))]:
            with self.assertRaises(NotWhole):
                walk_of(rows)

    def test_refusals(self):
        assert_refusals(self, walk_of, [("rows", lean().rows(), InvalidRows, WRONG_ROWS)])
        assert_same_by_name(self, walk_of, [("rows", [[0, 1], [HALF, HALF]])])


class TestWhole(unittest.TestCase):
    def test_closed_lots(self):
        met = {True: 0, False: 0}
        for walk, _ in likes(22):
            rows, places = walk.rows(), walk.places
            lots = [lot for k in range(1, places) for lot in itertools.combinations(range(places), k)]
            whole = all(told_reached(rows, lot) for lot in lots)
            met[whole] += 1
            self.assertIs(is_whole(walk), whole)
            lot = closed_lot(walk)
            self.assertEqual(lot, closed_lot(walk))
            self.assertIs(lot is None, whole)
            if not whole:
                self.assertIs(type(lot), list)
                self.assertIn(tuple(lot), lots)
                self.assertEqual({type(place) for place in lot}, {int})
                self.assertFalse(told_reached(rows, lot))
        self.assertGreater(min(met.values()), 3)
        self.assertIsNone(closed_lot(turn()))
        self.assertIs(is_whole(apart()), False)
        first = closed_lot(apart())
        first.append(7)
        self.assertIn(closed_lot(apart()), ([0], [1]))

    def test_refusals(self):
        for asked in (is_whole, closed_lot, backwards, is_alike_backwards):
            assert_refusals(self, asked, [("walk", lean(), InvalidWalk, NOT_WALKS)])
            assert_same_by_name(self, asked, [("walk", turn())])


class TestBackwards(unittest.TestCase):
    def test_backwards(self):
        for walk, _ in likes(23):
            back = backwards(walk)
            shares = walk.shares()
            self.assertEqual(back.shares(), shares)
            for i in range(walk.places):
                for j in range(walk.places):
                    self.assertEqual(shares[i] * back.rows()[i][j], shares[j] * walk.rows()[j][i])
            self.assertEqual(backwards(back), walk)
            self.assertIs(is_alike_backwards(walk), back == walk)
            self.assertIs(is_alike_backwards(mixed(walk, back, HALF)), True)
        self.assertIs(is_alike_backwards(turn()), False)
        self.assertIs(is_alike_backwards(lean()), True)


class TestPutTogether(unittest.TestCase):
    def test_then_and_mixed(self):
        part = Ratio(2, 7)
        for walk, other in likes(24):
            many = range(walk.places)
            one, two = walk.rows(), other.rows()
            both, lot = then(walk, other), mixed(walk, other, part)
            for i in many:
                for j in many:
                    self.assertEqual(both.rows()[i][j], Ratio.total([one[i][k] * two[k][j] for k in many]))
                    self.assertEqual(lot.rows()[i][j], part * one[i][j] + (1 - part) * two[i][j])
            self.assertEqual(both.shares(), walk.shares())
            self.assertEqual(lot.shares(), walk.shares())
            self.assertEqual(mixed(walk, other, 1), walk)
            self.assertEqual(mixed(walk, other, Ratio(0)), other)
            self.assertEqual(mixed(other, walk, 1 - part), lot)
            self.assertEqual(backwards(both), then(backwards(other), backwards(walk)))

    def test_lazy_and_power(self):
        for walk, _ in likes(25):
            stays = power(walk, 0)
            self.assertEqual(stays.rows(), [[Ratio(int(i == j)) for j in range(walk.places)] for i in range(walk.places)])
            self.assertEqual(stays.shares(), walk.shares())
            self.assertEqual(power(walk, 1), walk)
            self.assertEqual(then(power(walk, 2), power(walk, 3)), power(walk, 5))
            self.assertEqual(power(power(walk, 2), 3), then(power(walk, 4), power(walk, 2)))
            self.assertEqual(lazy(walk, 0), walk)
            self.assertEqual(lazy(walk, 1), stays)
            self.assertEqual(lazy(walk, Ratio(1, 3)), mixed(stays, walk, Ratio(1, 3)))
            self.assertEqual(lazy(walk, Ratio(1, 3)).shares(), walk.shares())
        self.assertEqual(power(turn(), 12), power(turn(), 0))
        self.assertEqual(power(turn(), 11), backwards(turn()))
        self.assertEqual(lazy(lean(), Ratio(1, 3)).rows()[0], [Ratio(2, 3), Ratio(1, 3)])

    def test_refusals(self):
        walk, other = two()
        first, second = ("walk", walk, InvalidWalk, NOT_WALKS), ("other", other, InvalidWalk, NOT_WALKS)
        part = ("part", Ratio(1, 5), InvalidPart, WRONG_PARTS)
        many = ("many", 3, InvalidMany, not_integers() + [-1, 13, 10 ** 29])
        for asked, told in [(then, [first, second]), (mixed, [first, second, part]), (lazy, [first, part]),
                            (power, [first, many])]:
            assert_refusals(self, asked, told)
            assert_same_by_name(self, asked, told)

    def test_refusals_behind_the_parameters(self):
        for asked, rest in [(then, []), (mixed, [HALF])]:
            with self.assertRaises(UnlikePlaces):
                asked(lean(), turn(), *rest)
            with self.assertRaises(UnlikeShares):
                asked(lean(), Walk([[0, 1], [1, 0]], [HALF, HALF]), *rest)
        for other in (turn(), Walk([[0, 1], [1, 0]], [HALF, HALF])):
            with self.assertRaises(InvalidPart):
                mixed(lean(), other, 2)
            with self.assertRaises(InvalidWalk):
                mixed(None, other, HALF)


class TestRenamed(unittest.TestCase):
    def test_renamed(self):
        stream = made(26)
        for walk, _ in likes(27):
            order = list(range(walk.places))
            stream.shuffle(order)
            found = renamed(walk, order)
            for i in range(walk.places):
                self.assertEqual(found.shares()[order[i]], walk.shares()[i])
                for j in range(walk.places):
                    self.assertEqual(found.rows()[order[i]][order[j]], walk.rows()[i][j])
            back = [order.index(place) for place in range(walk.places)]
            self.assertEqual(renamed(found, back), walk)
            self.assertEqual(renamed(walk, sorted(order)), walk)
            self.assertEqual(backwards(found), renamed(backwards(walk), order))

    def test_refusals(self):
        wrong = not_lists() + lists() + [
            [0, 1], [0, 1, 1], [0, 1, 3], [1, 2, 3], [0, 1, -1], [0, 1, 2, 0], [0, 1, 2, 3], [0, True, 2], [False, 1, 2],
            [0, 1, Ratio(2)], [0, 1, None], [0, 1, "2"], [0, 1, [2]], "012", {0: 0, 1: 1, 2: 2},
        ]
        walk = with_ring(turn(), [0, 1, 2], Ratio(-1, 9))
        told = [("walk", walk, InvalidWalk, NOT_WALKS), ("order", [1, 2, 0], InvalidOrder, wrong)]
        assert_refusals(self, renamed, told)
        assert_same_by_name(self, renamed, told)


if __name__ == "__main__":
    unittest.main()
