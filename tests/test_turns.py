"""Walks in turn, thinned, lazy, and with so much of a ring: their tables."""

import itertools
import unittest

from equations import plain, plains, told_error
from kinds import apart, backed, chances, even_pairs, even_walk, function, halves, lean, like_pairs, lists, made, mixed_walk
from kinds import any_walk, not_integers, not_lists, not_numbers, ring_walk, stayed, turn, walks, whole_walk
from refusals import assert_pure, assert_ratios, assert_refusals, assert_refused, assert_same_by_name, assert_unlike
from surerwalks.errors import InvalidMany, InvalidMuch, InvalidPart, InvalidRing, InvalidWalk, NotWhole, TooMuch
from surerwalks.flows import room_of_ring, with_ring
from surerwalks.forms import is_never_below, worth
from surerwalks.ratios import Ratio
from surerwalks.strays import error_table, spread_table
from surerwalks.tables import turned
from surerwalks.turns import lazy_table, ring_table, thin_table, turn_table
from surerwalks.walks import Walk, is_whole, power, then

HALF = Ratio(1, 2)
NOT_WALKS = not_lists()[:-1] + lists()
WRONG_PARTS = not_numbers() + [1, Ratio(1), Ratio(5, 5), -1, 2, Ratio(-1, 9), Ratio(10, 9), 10 ** 100]


def less(rows, others):
    return [[one - two for one, two in zip(*both)] for both in zip(rows, others)]


def in_turn(walk, other):
    """The rows and shares of the walk of twice as many places, each with whose turn it is."""
    none = [0] * walk.places
    rows = [none + plains(row) for row in walk.rows()] + [plains(row) + none for row in other.rows()]
    return rows, [share / 2 for share in plains(walk.shares() + walk.shares())]


def worths_of(stream, places):
    """Functions of so many places: each place alone, each two of them, and one by chance."""
    found = [[int(k in lot) for k in range(places)] for lot in itertools.combinations(range(places), 2)]
    return found + [[int(k == i) for k in range(places)] for i in range(places)] + [function(stream, places)]


class TestTurns(unittest.TestCase):
    def assert_turns(self, stream, walk, other):
        found = turn_table(walk, other)
        assert_ratios(self, found)
        self.assertEqual(found, turned(found))
        self.assertEqual([len(row) for row in found], [walk.places] * walk.places)
        rows, shares = in_turn(walk, other)
        # Those of one place and of two tell each entry.
        for worths in worths_of(stream, walk.places):
            self.assertEqual(plain(worth(found, worths)), told_error(rows, shares, plains(worths) * 2))
        self.assertEqual(turn_table(other, walk), found)
        return found

    def test_turn_table(self):
        stream = made(171)
        for walk, other in like_pairs(172, 5):
            if is_whole(then(walk, other)):
                self.assert_turns(stream, walk, other)
        walk = whole_walk(stream, 6, 2)
        self.assert_turns(stream, walk, stayed(backed(walk), Ratio(1, 3)))

    def test_walks_that_are_not_whole(self):
        """In turn they have a table, though none of them is whole."""
        stream = made(173)
        fourth = Ratio(1, 4)
        one = Walk([[0, 1, 0, 0], [1, 0, 0, 0], [0, 0, HALF, HALF], [0, 0, HALF, HALF]], [fourth] * 4)
        two = Walk([[HALF, 0, HALF, 0], [0, 0, 0, 1], [HALF, 0, HALF, 0], [0, 1, 0, 0]], [fourth] * 4)
        self.assertIs(is_whole(one) or is_whole(two), False)
        self.assert_turns(stream, one, two)
        self.assert_turns(stream, power(ring_walk(3), 3), ring_walk(3))
        met = 0
        for _ in range(40):
            places = stream.choice([3, 4, 5])
            one, two = any_walk(stream, places), any_walk(stream, places)
            if is_whole(then(one, two)) and not (is_whole(one) and is_whole(two)):
                met += 1
                self.assert_turns(stream, one, two)
        self.assertGreater(met, 1)

    def test_nearly_the_limit(self):
        """So many steps, begun at the last place ahead of the second walk's step, by numbers that are not exact."""
        stream = made(174)
        shares = chances(stream, 3, 4, 1)
        walk, other = even_walk(stream, shares), even_walk(stream, shares)
        rows, told = in_turn(walk, other)
        rows = [[float(number) for number in row] for row in rows]
        worths = plains(function(stream, 3)) * 2
        middle = sum(share * number for share, number in zip(told, worths))
        offs, places, many = [float(number - middle) for number in worths], range(6), 20000
        first, second = [0.0] * 6, [0.0] * 6
        for _ in range(many):
            one = [sum(rows[x][y] * first[y] for y in places) for x in places]
            two = [sum(rows[x][y] * second[y] for y in places) for x in places]
            second = [offs[x] ** 2 + 2 * offs[x] * one[x] + two[x] for x in places]
            first = [offs[x] + one[x] for x in places]
        found = worth(turn_table(walk, other), [Ratio(one.numerator, one.denominator) for one in worths[:3]])
        self.assertAlmostEqual(second[-1] / many, float(plain(found)), delta=0.02)

    def test_itself(self):
        for walk, _ in like_pairs(175):
            if is_whole(power(walk, 2)):
                self.assertEqual(turn_table(walk, walk), error_table(walk))
            else:
                with self.assertRaises(NotWhole):
                    turn_table(walk, walk)

    def test_walks_alike_backwards(self):
        met = 0
        for walk, other in even_pairs(176):
            if is_whole(then(walk, other)):
                met += 1
                more = less(error_table(mixed_walk(walk, other, HALF)), turn_table(walk, other))
                self.assertIs(is_never_below(more), True)
        self.assertGreater(met, 20)

    def test_refusals(self):
        walk = whole_walk(made(177), 3)
        other = stayed(backed(walk), HALF)
        told = [("walk", walk, InvalidWalk, NOT_WALKS), ("other", other, InvalidWalk, NOT_WALKS)]
        assert_refusals(self, turn_table, told)
        assert_same_by_name(self, turn_table, told)
        assert_pure(self, turn_table, walk, other)
        assert_unlike(self, turn_table)
        # Whole both of them, but not a step of each as one step.
        for one, two in [(ring_walk(2), ring_walk(2)), (turn(), backed(turn())), (ring_walk(4), ring_walk(4)),
                         (Walk([[1, 0], [0, 1]], [HALF, HALF]),) * 2]:
            with self.assertRaises(NotWhole):
                turn_table(one, two)


class TestThinned(unittest.TestCase):
    def test_thin_table(self):
        stream = made(178)
        for walk in walks(179, 4)[::2] + [lean(), turn(), ring_walk(4), ring_walk(5), stayed(ring_walk(3), HALF)]:
            for many in range(1, 13):
                thin = power(walk, many)
                if not is_whole(thin):
                    with self.assertRaises(NotWhole):
                        thin_table(walk, many)
                    continue
                found = thin_table(walk, many)
                assert_ratios(self, found)
                worths = function(stream, walk.places)
                rows, shares = [plains(row) for row in thin.rows()], plains(walk.shares())
                self.assertEqual(plain(worth(found, worths)), many * told_error(rows, shares, plains(worths)))
                self.assertIs(is_never_below(less(found, error_table(walk))), True)
            self.assertEqual(thin_table(walk, 1), error_table(walk))

    def test_refusals(self):
        told = [("walk", lean(), InvalidWalk, NOT_WALKS), ("many", 3, InvalidMany, not_integers() + [0, -1, 13, 10 ** 29])]
        assert_refusals(self, thin_table, told)
        assert_same_by_name(self, thin_table, told)
        assert_pure(self, thin_table, turn(), 5)
        self.assertEqual(thin_table(ring_walk(5), 12), [[Ratio(0)] * 5] * 5)
        for many, walk in ((2, ring_walk(2)), (3, turn()), (6, turn()), (2, ring_walk(4)), (12, ring_walk(6)), (1, apart())):
            with self.assertRaises(NotWhole):
                thin_table(walk, many)
        with self.assertRaises(InvalidMany):
            thin_table(apart(), 0)


class TestLazy(unittest.TestCase):
    def test_lazy_table(self):
        for walk, _ in like_pairs(180):
            for part in (0, Ratio(0), Ratio(1, 9), HALF, Ratio(2, 3), Ratio(999998, 999999)):
                found = lazy_table(walk, part)
                assert_ratios(self, found)
                rest = 1 - (Ratio(0) + part)
                told = [
                    [(one + part * two).over(rest) for one, two in zip(*rows)]
                    for rows in zip(error_table(walk), spread_table(walk))
                ]
                self.assertEqual(found, told)
                self.assertEqual(found, error_table(stayed(walk, part)))
            self.assertEqual(lazy_table(walk, 0), error_table(walk))

    def test_refusals(self):
        told = [("walk", turn(), InvalidWalk, NOT_WALKS), ("part", Ratio(2, 7), InvalidPart, WRONG_PARTS)]
        assert_refusals(self, lazy_table, told)
        assert_same_by_name(self, lazy_table, told)
        assert_pure(self, lazy_table, turn(), HALF)
        for part in (0, HALF, Ratio(999998, 999999)):
            with self.assertRaises(NotWhole):
                lazy_table(apart(), part)
        for part in (1, Ratio(1), True, 2):
            assert_refused(self, InvalidPart, part, lambda: lazy_table(apart(), part))


class TestRings(unittest.TestCase):
    def rings(self, stream, places):
        found = [list(ring) for k in range(3, places + 1) for ring in itertools.permutations(range(places), k)]
        return stream.sample(found, min(len(found), 4))

    def test_much(self):
        stream = made(181)
        for places in (3, 4, 5, 6):
            walk = whole_walk(stream, places)
            for ring in self.rings(stream, places):
                least, greatest = room_of_ring(walk, ring)
                for much in (least, greatest, (least + greatest).over(2), least.over(3), 0):
                    found = ring_table(walk, ring, much)
                    assert_ratios(self, found)
                    self.assertEqual(found, error_table(with_ring(walk, ring, much)))
                    self.assertEqual(ring_table(walk, ring[::-1], -much), found)
                small = Ratio(1, 10 ** 6)
                for much in (least - small, greatest + small, -1, 1):
                    with self.assertRaises(TooMuch):
                        ring_table(walk, ring, much)

    def test_walks_alike_backwards(self):
        stream = made(182)
        met = 0
        for walk, _ in even_pairs(183)[::2]:
            for ring in self.rings(stream, walk.places) if walk.places > 2 else []:
                least, greatest = room_of_ring(walk, ring)
                self.assertEqual(least, -greatest)
                tables = [ring_table(walk, ring, greatest * part) for part in (0, Ratio(1, 3), Ratio(2, 3), Ratio(1))]
                for one, two in zip(tables, tables[1:]):
                    self.assertIs(is_never_below(less(one, two)), True)
                    met += one != two
                self.assertEqual(tables[0], error_table(walk))
                for part, table in zip((Ratio(1, 3), Ratio(2, 3), Ratio(1)), tables[1:]):
                    self.assertEqual(ring_table(walk, ring, -greatest * part), table)
                    self.assertEqual(ring_table(walk, ring[::-1], greatest * part), table)
        self.assertGreater(met, 20)

    def test_refusals(self):
        wrong = not_lists() + lists() + [
            [0, 1], [0, 1, 1], [0, 1, 3], [0, 1, -1], [0, 1, 2, 0], [0, True, 2], [False, 1, 2], [0, 1, Ratio(2)],
            [0, 1, None],
            [0, 1, "2"], [[0, 1, 2]], "012", {0: 1, 1: 2, 2: 0},
        ]
        walk = mixed_walk(turn(), backed(turn()), HALF)
        told = [("walk", walk, InvalidWalk, NOT_WALKS), ("ring", [0, 2, 1], InvalidRing, wrong),
                ("much", Ratio(1, 99), InvalidMuch, not_numbers())]
        assert_refusals(self, ring_table, told)
        assert_same_by_name(self, ring_table, told)
        assert_pure(self, ring_table, walk, [0, 2, 1], Ratio(1, 99))
        stays = Walk([[int(i == j) for j in range(3)] for i in range(3)], [Ratio(1, 3)] * 3)
        with self.assertRaises(TooMuch):
            ring_table(stays, [0, 1, 2], Ratio(1, 9))
        with self.assertRaises(NotWhole):
            ring_table(stays, [0, 1, 2], 0)
        with self.assertRaises(InvalidMuch):
            ring_table(stays, [0, 1, 2], None)
        with self.assertRaises(InvalidRing):
            ring_table(halves(), [0, 1], 0)

    def test_known(self):
        """The walk round and round has no error; with a sixth of the ring less it is half back."""
        third, sixth = Ratio(1, 3), Ratio(1, 6)
        self.assertEqual(ring_table(turn(), [0, 1, 2], 0), [[Ratio(0)] * 3] * 3)
        self.assertEqual(ring_table(turn(), [0, 1, 2], -third), [[Ratio(0)] * 3] * 3)
        self.assertEqual(ring_table(turn(), [0, 1, 2], -sixth), error_table(mixed_walk(turn(), backed(turn()), HALF)))
        half = mixed_walk(turn(), backed(turn()), HALF)
        for much, told in ((0, Ratio(2, 27)), (sixth, Ratio(0)), (-sixth, Ratio(0))):
            self.assertEqual(ring_table(half, [0, 1, 2], much)[0][0], told)


if __name__ == "__main__":
    unittest.main()
