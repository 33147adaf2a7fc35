"""Half back, and walks by lot: error tables of mixed walks, and mixed tables."""

import unittest

from kinds import apart, backed, even_pairs, halves, like_pairs, lists, made, mixed_walk, not_lists, not_numbers, ring_walk
from kinds import any_walk, stayed, turn, whole_walk
from refusals import assert_pure, assert_ratios, assert_refusals, assert_same_by_name, assert_unlike
from surerwalks.errors import InvalidPart, InvalidWalk, NotWhole, UnlikePlaces, UnlikeShares
from surerwalks.forms import is_never_below
from surerwalks.lots import half_back, lot_table, mixed_table
from surerwalks.ratios import Ratio
from surerwalks.strays import error_table
from surerwalks.walks import Walk, is_alike_backwards, is_whole, power

HALF = Ratio(1, 2)
NOT_WALKS = not_lists()[:-1] + lists()
WRONG_PARTS = not_numbers() + [-1, 2, Ratio(-1, 9), Ratio(10, 9), 10 ** 100]
PARTS = [Ratio(1, 3), HALF, Ratio(6, 7)]


def less(rows, others):
    return [[one - two for one, two in zip(*both)] for both in zip(rows, others)]


class TestHalfBack(unittest.TestCase):
    def test_half_back(self):
        stream = made(161)
        some = [walk for walk, _ in like_pairs(162)] + [any_walk(stream, places) for places in (2, 3, 4, 5, 6)] + [apart()]
        for walk in some:
            found = half_back(walk)
            self.assertEqual(found, mixed_walk(walk, backed(walk), HALF))
            self.assertEqual(found.shares(), walk.shares())
            self.assertIs(is_alike_backwards(found), True)
            self.assertEqual(found == walk, is_alike_backwards(walk))
            self.assertEqual(half_back(backed(walk)), found)
            if is_whole(walk):
                self.assertEqual(error_table(backed(walk)), error_table(walk))
                more = less(error_table(found), error_table(walk))
                self.assertIs(is_never_below(more), True)
                flat = [[Ratio(0)] * walk.places] * walk.places
                self.assertIs(more == flat, is_alike_backwards(walk))

    def test_refusals(self):
        told = [("walk", turn(), InvalidWalk, NOT_WALKS)]
        assert_refusals(self, half_back, told)
        assert_same_by_name(self, half_back, told)


class TestTables(unittest.TestCase):
    def test_tables(self):
        for walk, other in like_pairs(163, 5):
            for part in PARTS + [0, 1, Ratio(0), Ratio(1)]:
                lot, both = lot_table(walk, other, part), mixed_table(walk, other, part)
                assert_ratios(self, lot)
                assert_ratios(self, both)
                self.assertEqual(lot, error_table(mixed_walk(walk, other, part)))
                told = [
                    [part * one + (1 - part) * two for one, two in zip(*rows)]
                    for rows in zip(error_table(walk), error_table(other))
                ]
                self.assertEqual(both, told)
                self.assertEqual(lot, lot_table(other, walk, 1 - part))
                self.assertEqual(both, mixed_table(other, walk, 1 - part))
            for part, alone in ((0, other), (1, walk)):
                self.assertEqual(lot_table(walk, other, part), error_table(alone))
                self.assertEqual(mixed_table(walk, other, part), error_table(alone))

    def test_walks_alike_backwards(self):
        for walk, other in even_pairs(164):
            for part in PARTS:
                more = less(mixed_table(walk, other, part), lot_table(walk, other, part))
                self.assertIs(is_never_below(more), True)

    def test_a_walk_and_it_backwards(self):
        met = 0
        for walk, _ in like_pairs(165):
            more = less(lot_table(walk, backed(walk), HALF), mixed_table(walk, backed(walk), HALF))
            self.assertEqual(more, less(error_table(half_back(walk)), error_table(walk)))
            self.assertIs(is_never_below(more), True)
            met += not is_alike_backwards(walk)
        self.assertGreater(met, 5)

    def test_whole_by_both_alone(self):
        """Mixed they are whole, though one of them is not, or none."""
        fourth = Ratio(1, 4)
        one = Walk([[0, 1, 0, 0], [1, 0, 0, 0], [0, 0, 0, 1], [0, 0, 1, 0]], [fourth] * 4)
        two = Walk([[1, 0, 0, 0], [0, 0, 1, 0], [0, 1, 0, 0], [0, 0, 0, 1]], [fourth] * 4)
        ring = ring_walk(4)
        for walk, other in ((one, two), (two, one), (one, ring), (ring, one), (power(ring, 4), ring), (ring, two)):
            for part in PARTS:
                self.assertEqual(lot_table(walk, other, part), error_table(mixed_walk(walk, other, part)))
                with self.assertRaises(NotWhole):
                    mixed_table(walk, other, part)
            for part in (0, 1, Ratio(0), Ratio(1)):
                with self.assertRaises(NotWhole):
                    mixed_table(walk, other, part)
                if is_whole(walk if part in (1, Ratio(1)) else other):
                    self.assertEqual(lot_table(walk, other, part), error_table(ring))
                else:
                    with self.assertRaises(NotWhole):
                        lot_table(walk, other, part)
        stays = power(one, 2)
        with self.assertRaises(NotWhole):
            lot_table(one, stays, HALF)

    def test_refusals(self):
        walk = whole_walk(made(166), 3)
        other = stayed(backed(walk), Ratio(1, 5))
        told = [("walk", walk, InvalidWalk, NOT_WALKS), ("other", other, InvalidWalk, NOT_WALKS),
                ("part", Ratio(2, 7), InvalidPart, WRONG_PARTS)]
        stays = Walk([[1, 0], [0, 1]], [HALF, HALF])
        for asked in (lot_table, mixed_table):
            assert_refusals(self, asked, told)
            assert_same_by_name(self, asked, told)
            assert_pure(self, asked, walk, other, Ratio(2, 7))
            for part in (0, 1, HALF):
                assert_unlike(self, asked, part)
            for second, error in ((turn(), UnlikePlaces), (apart(), UnlikeShares), (stays, NotWhole)):
                with self.assertRaises(error):
                    asked(stays, second, HALF)
                with self.assertRaises(InvalidPart):
                    asked(stays, second, 2)
        self.assertEqual(lot_table(stays, halves(), HALF), error_table(stayed(halves(), HALF)))


if __name__ == "__main__":
    unittest.main()
