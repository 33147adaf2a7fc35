"""How far averages stray: means, spreads, error tables, ahead, so many steps."""

import itertools
import unittest

from kinds import any_walk, apart, chances, function, halves, lean, lists, made, not_integers, not_lists, turn, walks
from kinds import ratio, whole_walk
from refusals import assert_ratios, assert_refusals, assert_same_by_name
from surerwalks.errors import InvalidFunction, InvalidMany, InvalidStart, InvalidWalk, NotWhole
from surerwalks.forms import is_never_below, worth
from surerwalks.ratios import Ratio
from surerwalks.strays import after, after_table, ahead, error, error_table, mean, spread, spread_table
from surerwalks.tables import turned
from surerwalks.walks import Walk, backwards, is_whole, lazy, mixed, power, renamed, walk_of

HALF = Ratio(1, 2)
NOT_WALKS = not_lists()[:-1] + lists()
WRONG_FUNCTIONS = not_lists() + lists() + [[1, 2], [1, 2, 3, 4], [1, 2, True], [None, 1, 2], [1, "2", 3], "123", [1, 2, [3]]]
WRONG_STARTS = WRONG_FUNCTIONS + [
    [1, 0, Ratio(1, 9)], [0, 0, 0], [2, -1, 0], [Ratio(3, 2), Ratio(-1, 2), 0], [HALF, HALF, HALF], [True, 0, 0], [1, 0], [1],
]
WRONG_COUNTS = not_integers() + [0, -1, 13, 10 ** 29]


def told_mean(walk, worths):
    return Ratio.total([share * number for share, number in zip(walk.shares(), worths)])


def told_after(walk, start, many, worths):
    """All ways of so many places, one by one."""
    middle, parts = told_mean(walk, worths), []
    for way in itertools.product(range(walk.places), repeat=many):
        chance = Ratio(0) + start[way[0]]
        for i, j in zip(way, way[1:]):
            chance = chance * walk.rows()[i][j]
        off = Ratio.total([worths[place] for place in way]).over(many) - middle
        parts.append(chance * off * off)
    return Ratio.total(parts) * many


def told_by_sums(walk, start, many, worths):
    """The same, by the chances of each place with each sum of worths that are INTEGERS."""
    rows = walk.rows()
    now = {(place, worths[place]): Ratio(0) + chance for place, chance in enumerate(start) if chance != 0}
    for _ in range(many - 1):
        new = {}
        for (place, size), chance in now.items():
            for j, more in enumerate(rows[place]):
                key = (j, size + worths[j])
                new[key] = new.get(key, Ratio(0)) + chance * more
        now = new
    middle = told_mean(walk, worths)
    offs = [(chance, Ratio(size, many) - middle) for (_, size), chance in now.items()]
    return Ratio.total([chance * off * off for chance, off in offs]) * many


def told_limit(walk, worths, many):
    """Nearly the limit: many steps, begun at the last place, by numbers that are not exact."""
    many_places = range(walk.places)
    rows = [[chance.top / chance.bottom for chance in row] for row in walk.rows()]
    middle = told_mean(walk, worths)
    offs = [(number - middle).top / (number - middle).bottom for number in worths]
    # The mean of the square of the sum of what is to come, and of this sum, from each place.
    first, second = [0.0 for _ in many_places], [0.0 for _ in many_places]
    for _ in range(many):
        one = [sum(rows[x][y] * first[y] for y in many_places) for x in many_places]
        two = [sum(rows[x][y] * second[y] for y in many_places) for x in many_places]
        second = [offs[x] ** 2 + 2 * offs[x] * one[x] + two[x] for x in many_places]
        first = [offs[x] + one[x] for x in many_places]
    return second[-1] / many


class TestMeans(unittest.TestCase):
    def test_mean_and_spread(self):
        stream = made(41)
        for walk in walks(42, 6) + [apart(), any_walk(stream, 5)]:
            worths = function(stream, walk.places)
            middle = told_mean(walk, worths)
            self.assertEqual(mean(walk, worths), middle)
            told = Ratio.total([share * (one - middle) * (one - middle) for share, one in zip(walk.shares(), worths)])
            self.assertEqual(spread(walk, worths), told)
            self.assertIs(type(spread(walk, worths)), Ratio)
            self.assertEqual(worth(spread_table(walk), worths), told)
            assert_ratios(self, spread_table(walk))
            self.assertEqual(spread_table(walk), turned(spread_table(walk)))
            drawn = Walk([walk.shares()] * walk.places, walk.shares())
            self.assertEqual(spread_table(walk), error_table(drawn))
        self.assertEqual(mean(apart(), [1, 4]), Ratio(3))
        self.assertEqual(spread(apart(), [1, 4]), Ratio(2))


class TestErrorTables(unittest.TestCase):
    def test_error_table(self):
        stream = made(43)
        for walk in walks(44, 6):
            found = error_table(walk)
            places = range(walk.places)
            assert_ratios(self, found)
            self.assertEqual(found, turned(found))
            self.assertIs(is_never_below(found), True)
            self.assertEqual([Ratio.total(row) for row in found], [Ratio(0)] * walk.places)
            self.assertEqual(error_table(backwards(walk)), found)
            worths = function(stream, walk.places)
            told = ahead(walk, worths)
            self.assertEqual(error(walk, worths), worth(found, worths))
            nexts = [Ratio.total([walk.rows()[x][y] * told[y] for y in places]) for x in places]
            squared = [
                walk.shares()[x] * walk.rows()[x][y] * (told[y] - nexts[x]) * (told[y] - nexts[x])
                for x in places for y in places
            ]
            self.assertEqual(error(walk, worths), Ratio.total(squared))
            found[0][0] = "changed"
            self.assertEqual(error(walk, worths), Ratio.total(squared))

    def test_ahead(self):
        stream = made(45)
        for walk in walks(46, 6):
            worths = function(stream, walk.places)
            told = ahead(walk, worths)
            self.assertIs(type(told), list)
            assert_ratios(self, told)
            self.assertEqual(told_mean(walk, told), Ratio(0))
            for x in range(walk.places):
                after_it = Ratio.total([chance * number for chance, number in zip(walk.rows()[x], told)])
                self.assertEqual(told[x] - after_it, worths[x] - told_mean(walk, worths))
            self.assertEqual(ahead(walk, [1] * walk.places), [Ratio(0)] * walk.places)

    def test_limit(self):
        stream = made(47)
        for walk in walks(48, 4) + [walk_of([[0, 1, 0], [HALF, 0, HALF], [0, 1, 0]])]:
            worths = function(stream, walk.places)
            told = error(walk, worths)
            self.assertAlmostEqual(told_limit(walk, worths, 40000), told.top / told.bottom, delta=0.02)

    def test_rings(self):
        for places in range(2, 7):
            rows = [[int(j == (i + 1) % places) for j in range(places)] for i in range(places)]
            walk = walk_of(rows)
            self.assertEqual(error_table(walk), [[Ratio(0)] * places for _ in range(places)])
            self.assertEqual(error(walk, list(range(places))), Ratio(0))

    def test_renamed_and_lazy(self):
        stream = made(49)
        for walk in walks(50):
            worths = function(stream, walk.places)
            order = list(range(walk.places))[::-1]
            self.assertEqual(error(renamed(walk, order), worths[::-1]), error(walk, worths))
            part = Ratio(2, 5)
            told = (error(walk, worths) + part * spread(walk, worths)).over(1 - part)
            self.assertEqual(error(lazy(walk, part), worths), told)

    def test_backwards_and_half_back(self):
        for walk in walks(52):
            half = error_table(mixed(walk, backwards(walk), HALF))
            more = [[one - two for one, two in zip(*rows)] for rows in zip(half, error_table(walk))]
            self.assertIs(is_never_below(more), True)
            flat = [[Ratio(0)] * walk.places for _ in range(walk.places)]
            self.assertIs(more == flat, backwards(walk) == walk)

    def test_not_whole(self):
        stream = made(53)
        for walk in [apart(), power(turn(), 3), Walk([[0, 1, 0], [1, 0, 0], [0, 0, 1]], [Ratio(1, 4), Ratio(1, 4), HALF])]:
            self.assertIs(is_whole(walk), False)
            worths = function(stream, walk.places)
            for call in (lambda: error_table(walk), lambda: error(walk, worths), lambda: ahead(walk, worths)):
                with self.assertRaises(NotWhole):
                    call()
            for asked in (error, ahead):
                with self.assertRaises(InvalidFunction):
                    asked(walk, [1])
            self.assertEqual(mean(walk, worths), told_mean(walk, worths))
            self.assertEqual(spread(walk, worths), worth(spread_table(walk), worths))
            self.assertEqual(after(walk, walk.shares(), 1, worths), spread(walk, worths))


class TestAfter(unittest.TestCase):
    def test_all_ways(self):
        stream = made(54)
        some = [(lean(), 7), (turn(), 5), (apart(), 7), (halves(), 6), (whole_walk(stream, 3), 5), (whole_walk(stream, 4), 4),
                (any_walk(stream, 5), 3), (whole_walk(stream, 6), 3)]
        for walk, most in some:
            for many in range(1, most + 1):
                start, worths = chances(stream, walk.places), [ratio(stream, 4) for _ in range(walk.places)]
                told = told_after(walk, start, many, worths)
                self.assertEqual(after(walk, start, many, worths), told)
                found = after_table(walk, start, many)
                assert_ratios(self, found)
                self.assertEqual(found, turned(found))
                self.assertEqual(worth(found, worths), told)

    def test_all_counts(self):
        stream = made(55)
        for walk in [lean(), turn(), apart(), whole_walk(stream, 3), whole_walk(stream, 5), any_walk(stream, 6)]:
            for many in range(1, 13):
                for start in (chances(stream, walk.places), walk.shares(), [1] + [0] * (walk.places - 1)):
                    worths = [stream.randint(-2, 2) for _ in range(walk.places)]
                    told = told_by_sums(walk, start, many, worths)
                    self.assertEqual(after(walk, start, many, worths), told)

    def test_the_form_is_the_only_one(self):
        """Its worth at ones and pairs of ones tells each entry."""
        stream = made(56)
        walk, start = whole_walk(stream, 3), chances(stream, 3)
        found = after_table(walk, start, 4)
        for i, j in itertools.product(range(3), repeat=2):
            one, two = [int(k == i) for k in range(3)], [int(k == j) for k in range(3)]
            both = [a + b for a, b in zip(one, two)]
            parts = [told_after(walk, start, 4, worths) for worths in (both, one, two)]
            self.assertEqual(found[i][j], (parts[0] - parts[1] - parts[2]).over(2))
        self.assertEqual([Ratio.total(row) for row in found], [Ratio(0)] * 3)

    def test_from_the_shares(self):
        for walk in walks(57, 4):
            self.assertEqual(after_table(walk, walk.shares(), 1), spread_table(walk))


class TestRefusals(unittest.TestCase):
    def test_refusals(self):
        walk = whole_walk(made(58), 3)
        first = ("walk", walk, InvalidWalk, NOT_WALKS)
        worths = ("function", [1, Ratio(1, 2), -3], InvalidFunction, WRONG_FUNCTIONS)
        start = ("start", [Ratio(1, 3), 0, Ratio(2, 3)], InvalidStart, WRONG_STARTS)
        many = ("many", 3, InvalidMany, WRONG_COUNTS)
        for asked, told in [
            (mean, [first, worths]), (spread, [first, worths]), (spread_table, [first]), (ahead, [first, worths]),
            (error_table, [first]), (error, [first, worths]), (after_table, [first, start, many]),
            (after, [first, start, many, worths]),
        ]:
            assert_refusals(self, asked, told)
            assert_ratios(self, assert_same_by_name(self, asked, told))


if __name__ == "__main__":
    unittest.main()
