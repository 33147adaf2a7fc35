"""Flows, and walks with more or less of a ring."""

import itertools
import unittest

from kinds import lean, lists, made, not_lists, not_numbers, turn, walks, whole_walk
from refusals import assert_ratios, assert_refusals, assert_same_by_name
from surerwalks.errors import InvalidMuch, InvalidRing, InvalidTable, InvalidWalk, TooMuch
from surerwalks.flows import flow, room_of_ring, walk_of_flow, with_ring
from surerwalks.ratios import Ratio
from surerwalks.tables import turned
from surerwalks.walks import Walk, backwards, is_alike_backwards, mixed, walk_of

NOT_WALKS = not_lists()[:-1] + lists()
THIRD = Ratio(1, 3)


def rings(places):
    """Every ring of so many places, begun at any of them, in either direction."""
    return [list(ring) for k in range(3, places + 1) for ring in itertools.permutations(range(places), k)]


class TestFlow(unittest.TestCase):
    def test_flow(self):
        for walk in walks(31, 6):
            found = flow(walk)
            assert_ratios(self, found)
            for share, row, told in zip(walk.shares(), walk.rows(), found):
                self.assertEqual(told, [share * chance for chance in row])
            self.assertEqual([Ratio.total(row) for row in found], walk.shares())
            self.assertEqual([Ratio.total(column) for column in turned(found)], walk.shares())
            self.assertEqual(walk_of_flow(found), walk)
            self.assertEqual(walk_of_flow(turned(found)), backwards(walk))
            self.assertIs(is_alike_backwards(walk), found == turned(found))
            found[0][0] = "changed"
            self.assertEqual(walk_of_flow(flow(walk)), walk)

    def test_walk_of_flow(self):
        told = [[0, THIRD, 0], [0, 0, THIRD], [THIRD, 0, 0]]
        self.assertEqual(walk_of_flow(told), turn())
        half = Ratio(1, 2)
        self.assertEqual(walk_of_flow([[half, 0], [0, half]]), Walk([[1, 0], [0, 1]], [half, half]))
        self.assertEqual(flow(walk_of_flow(told)), [[Ratio(0) + number for number in row] for row in told])

    def test_refusals(self):
        half, fourth = Ratio(1, 2), Ratio(1, 4)
        wrong = not_lists() + lists() + [
            [[1]], [[1, 0], [0, 0]], [[half, 0], [0, fourth]], [[1, 0], [0, 1]], [[fourth, half], [fourth, 0]],
            [[half, Ratio(-1, 4)], [Ratio(-1, 4), 1]], [[half, 0], [0, True]], [[half, 0], [0, half, 0]], [[half, half]],
            [[half, 0], [0, None]], [[1, 0], [0, False]], [[Ratio(1, 7) if i == j else 0 for j in range(7)] for i in range(7)],
            [[fourth, fourth], [0, half]], [[THIRD, THIRD, 0], [0, 0, 0], [0, 0, THIRD]], [[half, 0], "01"],
        ]
        told = [("table", [[half, fourth], [fourth, 0]], InvalidTable, wrong)]
        assert_refusals(self, walk_of_flow, told)
        assert_same_by_name(self, walk_of_flow, told)
        told = [("walk", lean(), InvalidWalk, NOT_WALKS)]
        assert_refusals(self, flow, told)
        assert_same_by_name(self, flow, told)


class TestRings(unittest.TestCase):
    def assert_ring(self, walk, ring):
        told, rows = flow(walk), flow(walk)
        steps = list(zip(ring, ring[1:] + ring[:1]))
        least, greatest = room_of_ring(walk, ring)
        self.assertIs(type(room_of_ring(walk, ring)), tuple)
        assert_ratios(self, (least, greatest))
        for much in (least, greatest, (least + greatest).over(2), 0):
            found = with_ring(walk, ring, much)
            self.assertEqual(found.shares(), walk.shares())
            more = flow(found)
            for i, j in itertools.product(range(walk.places), repeat=2):
                change = much if (i, j) in steps else -much if (j, i) in steps else 0
                self.assertEqual(more[i][j], rows[i][j] + change)
            self.assertEqual(with_ring(found, ring, -much), walk)
            self.assertEqual(with_ring(found, ring[::-1], much), walk)
            self.assertEqual(with_ring(walk, ring[1:] + ring[:1], much), found)
        small = Ratio(1, 10 ** 9)
        for much in (least - small, greatest + small, least - 5, greatest + 5):
            with self.assertRaises(TooMuch):
                with_ring(walk, ring, much)
        self.assertIn(Ratio(0), [told[i][j] + least for i, j in steps])
        self.assertIn(Ratio(0), [told[j][i] - greatest for i, j in steps])
        self.assertEqual(room_of_ring(walk, ring[::-1]), (-greatest, -least))

    def test_rings(self):
        stream = made(32)
        for places, step in ((3, 1), (4, 3), (5, 29), (6, 211)):
            for walk in (whole_walk(stream, places), whole_walk(stream, places, 9)):
                half = mixed(walk, backwards(walk), Ratio(1, 2))
                for ring in rings(places)[::step]:
                    self.assert_ring(walk, ring)
                    self.assert_ring(half, ring)

    def test_no_room(self):
        stays = Walk([[int(i == j) for j in range(4)] for i in range(4)], [Ratio(1, 4)] * 4)
        self.assertEqual(room_of_ring(stays, [0, 3, 1]), (Ratio(0), Ratio(0)))
        self.assertEqual(with_ring(stays, [0, 3, 1], 0), stays)
        with self.assertRaises(TooMuch):
            with_ring(stays, [0, 3, 1], Ratio(1, 999999))

    def test_whole_numbers(self):
        self.assertEqual(with_ring(turn(), (2, 1, 0), THIRD), backwards(turn()))
        for much in (1, -1, 10 ** 100):
            with self.assertRaises(TooMuch):
                with_ring(turn(), [0, 1, 2], much)

    def test_refusals(self):
        wrong = not_lists() + lists() + [
            [0, 1], [0, 1, 1], [0, 1, 0], [0, 1, 4], [0, 1, -1], [0, 1, 2, 0], [0, 1, 2, 3, 4], [0, True, 2], [False, 1, 2],
            [0, 1, Ratio(2)], [0, 1, None], [0, 1, "2"], [[0, 1, 2]], "012", {0: 1, 1: 2, 2: 0}, [0, 1, 10 ** 29],
        ]
        walk = walk_of([[Ratio(1, 4)] * 4] * 4)
        told = [("walk", walk, InvalidWalk, NOT_WALKS), ("ring", [0, 2, 3], InvalidRing, wrong)]
        assert_refusals(self, room_of_ring, told)
        assert_same_by_name(self, room_of_ring, told)
        told = told + [("much", Ratio(1, 100), InvalidMuch, not_numbers())]
        assert_refusals(self, with_ring, told)
        assert_same_by_name(self, with_ring, told)
        for ring in ([0, 1], [0, 1, 0], [0, 1, 2], []):
            with self.assertRaises(InvalidRing):
                room_of_ring(lean(), ring)


if __name__ == "__main__":
    unittest.main()
