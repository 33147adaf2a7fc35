"""Tours: the means of their sums and of the squares of these."""

import unittest

from equations import plain, plains, sums_on_the_way
from kinds import apart, function, lean, lists, made, not_integers, not_lists, ring_walk, walks, whole_walk
from refusals import assert_pure, assert_ratios, assert_refusals, assert_same_by_name
from surerwalks.errors import InvalidFunction, InvalidPlace, InvalidWalk, NotWhole
from surerwalks.ratios import Ratio
from surerwalks.strays import error, mean
from surerwalks.tours import tour_means
from surerwalks.walks import Walk, power, walk_of

NOT_WALKS = not_lists()[:-1] + lists()
WRONG_FUNCTIONS = not_lists() + lists() + [[1, 2], [1, 2, 3, 4], [1, 2, True], [None, 1, 2], [1, "2", 3], "123", [1, 2, [3]]]


def told_tour(walk, place, worths):
    """By equations for the places other than this one."""
    rows, numbers = [plains(row) for row in walk.rows()], plains(worths)
    others = [i for i in range(walk.places) if i != place]
    first, squared = sums_on_the_way({i: {j: rows[i][j] for j in others} for i in others}, dict(enumerate(numbers)))
    rest = sum(rows[place][j] * first[j] for j in others)
    more = sum(rows[place][j] * squared[j] for j in others)
    return numbers[place] + rest, numbers[place] ** 2 + 2 * numbers[place] * rest + more


class TestTours(unittest.TestCase):
    def test_means(self):
        stream = made(61)
        for walk in walks(62, 6):
            worths = function(stream, walk.places)
            middle = mean(walk, worths)
            offs = [number - middle for number in worths]
            for place, share in enumerate(walk.shares()):
                found = tour_means(walk, place, worths)
                self.assertIs(type(found), tuple)
                self.assertEqual(len(found), 2)
                assert_ratios(self, found)
                self.assertEqual(found[0], middle.over(share))
                self.assertEqual(tuple(plains(found)), told_tour(walk, place, worths))
                first, second = tour_means(walk, place, offs)
                self.assertEqual(first, Ratio(0))
                self.assertEqual(second * share, error(walk, worths))

    def test_length(self):
        stream = made(63)
        for walk in walks(64, 6):
            place = stream.randrange(walk.places)
            found = tour_means(walk, place, [1] * walk.places)
            self.assertEqual(found[0], Ratio(1).over(walk.shares()[place]))
            found = tour_means(walk, place, [int(i == place) for i in range(walk.places)])
            self.assertEqual(found, (Ratio(1), Ratio(1)))
            self.assertEqual(tour_means(walk, place, [0] * walk.places), (Ratio(0), Ratio(0)))

    def test_rings(self):
        stream = made(65)
        for places in range(2, 7):
            worths = function(stream, places)
            whole = Ratio.total(worths)
            for place in range(places):
                self.assertEqual(tour_means(ring_walk(places), place, worths), (whole, whole * whole))

    def test_two_places(self):
        """The tour from 0 is 0 alone, or 0 and so many stays at 1: their number is told by chances that go on as a row."""
        stream = made(66)
        for _ in range(20):
            go, back = Ratio(stream.randint(1, 7), 7), Ratio(stream.randint(1, 5), 5)
            walk = walk_of([[1 - go, go], [back, 1 - back]])
            one, two = [plain(number) for number in function(stream, 2)]
            found = plains(tour_means(walk, 0, [Ratio(one.numerator, one.denominator), Ratio(two.numerator, two.denominator)]))
            leave, come = plain(go), plain(back)
            stays = 1 / come
            squared = (2 - come) / come ** 2
            self.assertEqual(found[0], one + leave * two * stays)
            self.assertEqual(found[1], one ** 2 + leave * (2 * one * two * stays + two ** 2 * squared))
            near, chance = [(1 - leave) * one, (1 - leave) * one ** 2], leave * come
            for many in range(1, 400):
                near = [near[0] + float(chance * (one + many * two)), near[1] + float(chance * (one + many * two) ** 2)]
                chance = float(chance) * float(1 - come)
            self.assertAlmostEqual(near[0], float(found[0]), delta=1e-6)
            self.assertAlmostEqual(near[1], float(found[1]), delta=1e-6)

    def test_not_whole(self):
        for walk in [apart(), power(ring_walk(3), 3), Walk([[0, 1, 0], [1, 0, 0], [0, 0, 1]], [Ratio(1, 3)] * 3)]:
            worths = [1] * walk.places
            for place in range(walk.places):
                with self.assertRaises(NotWhole):
                    tour_means(walk, place, worths)
            with self.assertRaises(InvalidPlace):
                tour_means(walk, walk.places, worths)
            with self.assertRaises(InvalidFunction):
                tour_means(walk, 0, worths + [1])

    def test_refusals(self):
        walk = whole_walk(made(67), 3)
        told = [
            ("walk", walk, InvalidWalk, NOT_WALKS),
            ("place", 2, InvalidPlace, not_integers() + [3, -1, -3, 10 ** 29]),
            ("function", [1, Ratio(1, 2), -3], InvalidFunction, WRONG_FUNCTIONS),
        ]
        assert_refusals(self, tour_means, told)
        assert_ratios(self, assert_same_by_name(self, tour_means, told))
        assert_pure(self, tour_means, walk, 2, [1, Ratio(1, 2), -3])
        for place in (2, -1):
            with self.assertRaises(InvalidPlace):
                tour_means(lean(), place, [0, 1])


if __name__ == "__main__":
    unittest.main()
