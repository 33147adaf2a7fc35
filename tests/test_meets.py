"""Meetings: whether two walks by the same rows meet surely, and the means of their meeting sums."""

import unittest
from fractions import Fraction

from equations import plain, plains, sums_on_the_way
from kinds import Own, any_walk, apart, chances, function, halves, lean, lists, made, mixed_walk, not_lists, ring_walk
from kinds import stayed, turn, walks, whole_walk
from refusals import assert_pure, assert_ratios, assert_refusals, assert_same_by_name
from surerwalks.errors import InvalidFunction, InvalidStart, InvalidWalk, InvalidWay, NeverMeet
from surerwalks.meets import meeting_means, meets_surely
from surerwalks.ratios import Ratio
from surerwalks.strays import mean
from surerwalks.walks import Walk, is_whole, power, walk_of

HALF = Ratio(1, 2)
WAYS = ("apart", "near")
NOT_WALKS = not_lists()[:-1] + lists()
WRONG_FUNCTIONS = not_lists() + lists() + [[1, 2], [1, 2, 3, 4], [1, 2, True], [None, 1, 2], [1, "2", 3], "123", [1, 2, [3]]]
WRONG_STARTS = WRONG_FUNCTIONS + [
    [1, 0, Ratio(1, 9)], [0, 0, 0], [2, -1, 0], [Ratio(3, 2), Ratio(-1, 2), 0], [HALF, HALF, HALF], [True, 0, 0], [1, 0], [1],
]
WRONG_WAYS = not_lists() + lists() + ["Apart", "NEAR", "near ", " apart", "apartnear", b"near", ["near"], ("apart",), Own()]


def next_pairs(rows, x, y, way):
    """The chances of all next pairs, alike ones too."""
    places = range(len(rows))
    if way == "apart":
        return {(a, b): rows[x][a] * rows[y][b] for a in places for b in places}
    both = [min(rows[x][z], rows[y][z]) for z in places]
    found = {(z, z): both[z] for z in places}
    left = 1 - sum(both)
    for a in places:
        for b in places:
            if a != b:
                more = (rows[x][a] - both[a]) * (rows[y][b] - both[b])
                found[(a, b)] = more / left if more else Fraction(0)
    return found


def told_steps(walk, start, way):
    """For each pair of unlike places that can be come to, the next ones; the first ones with the worth ahead."""
    rows, begun = [plains(row) for row in walk.rows()], plains(start)
    places = range(walk.places)
    firsts = {}
    for x in places:
        for a in places:
            for y in places:
                chance = begun[x] * rows[x][a] * begun[y]
                if chance:
                    firsts[(x, a, y)] = chance
    steps, waiting = {}, [(a, y) for _, a, y in firsts if a != y]
    while waiting:
        pair = waiting.pop()
        if pair not in steps:
            told = next_pairs(rows, *pair, way)
            steps[pair] = {key: chance for key, chance in told.items() if chance and key[0] != key[1]}
            waiting.extend(steps[pair])
    return firsts, steps


def can_meet(steps, pair):
    """Whether from this pair some chances lead to a meeting."""
    seen, waiting = set(), [pair]
    while waiting:
        one = waiting.pop()
        if sum(steps[one].values()) != 1:
            return True
        if one not in seen:
            seen.add(one)
            waiting.extend(steps[one])
    return False


def told_surely(walk, start, way):
    _, steps = told_steps(walk, start, way)
    return all(can_meet(steps, pair) for pair in steps)


def told_means(walk, start, worths, way):
    """By equations for the pairs, begun with each place, its next one and the other's place."""
    numbers = plains(worths)
    firsts, steps = told_steps(walk, start, way)
    told, squared = sums_on_the_way(steps, {(x, y): numbers[x] - numbers[y] for x, y in steps})
    first = second = Fraction(0)
    for (x, a, y), chance in firsts.items():
        own, rest, more = numbers[x], told.get((a, y), 0), squared.get((a, y), 0)
        first += chance * (own + rest)
        second += chance * (own ** 2 + 2 * own * rest + more)
    return first, second


def told_nearly(walk, start, worths, way, many):
    """By the chances, which are not exact, of each pair with each sum of worths that are INTEGERS."""
    rows = [[float(number) for number in plains(row)] for row in walk.rows()]
    begun = [float(number) for number in plains(start)]
    places = range(walk.places)
    now = {}
    for x in places:
        for a in places:
            for y in places:
                key = (a, y, worths[x])
                now[key] = now.get(key, 0.0) + begun[x] * rows[x][a] * begun[y]
    first = second = 0.0
    for _ in range(many):
        new = {}
        for (a, y, size), chance in now.items():
            if a == y:
                first, second = first + chance * size, second + chance * size ** 2
            elif chance > 1e-13:
                for (c, d), more in next_pairs(rows, a, y, way).items():
                    key = (c, d, size + worths[a] - worths[y])
                    new[key] = new.get(key, 0.0) + chance * more
        now = new
    return first, second


def starts(stream, places):
    return [chances(stream, places), [int(i == places - 1) for i in range(places)], [Ratio(1, places)] * places]


class TestMeetings(unittest.TestCase):
    def test_whole_walks(self):
        stream = made(71)
        met = {True: 0, False: 0}
        some = walks(72, 5)[1::2] + [whole_walk(stream, 6, 2), turn(), ring_walk(4), stayed(ring_walk(5), HALF), halves()]
        some += [power(ring_walk(5), 2), walk_of([[0, 1, 0], [HALF, 0, HALF], [0, 1, 0]])]
        for walk in some:
            self.assertIs(is_whole(walk), True)
            for start in starts(stream, walk.places):
                for way in WAYS:
                    self.assert_told(walk, start, function(stream, walk.places), way, met)
        self.assertGreater(min(met.values()), 10)

    def assert_told(self, walk, start, worths, way, met):
        surely = meets_surely(walk, start, way)
        self.assertIs(surely, told_surely(walk, start, way))
        met[surely] += 1
        if not surely:
            with self.assertRaises(NeverMeet):
                meeting_means(walk, start, worths, way)
            return
        found = meeting_means(walk, start, worths, way)
        self.assertIs(type(found), tuple)
        self.assertEqual(len(found), 2)
        assert_ratios(self, found)
        self.assertEqual(tuple(plains(found)), told_means(walk, start, worths, way))
        if is_whole(walk):
            self.assertEqual(found[0], mean(walk, worths))

    def test_not_whole(self):
        stream = made(73)
        met = {True: 0, False: 0}
        third = Ratio(1, 3)
        lots = Walk([[HALF, HALF, 0, 0], [HALF, HALF, 0, 0], [0, 0, third, 1 - third], [0, 0, 1 - third, third]],
                    [Ratio(1, 4)] * 4)
        some = [apart(), lots, power(turn(), 3), mixed_walk(lots, power(lots, 0), Ratio(2, 5))]
        some += [any_walk(stream, places) for places in (2, 3, 4, 5, 6) for _ in range(4)]
        for walk in some:
            for start in starts(stream, walk.places):
                for way in WAYS:
                    self.assert_told(walk, start, function(stream, walk.places), way, met)
        self.assertGreater(min(met.values()), 10)
        for way in WAYS:
            self.assertEqual(meeting_means(apart(), [0, 1], [3, Ratio(-5, 2)], way), (Ratio(-5, 2), Ratio(25, 4)))
            self.assertIs(meets_surely(lots, [HALF, HALF, 0, 0], way), True)
            self.assertIs(meets_surely(lots, [0, 0, 1, 0], way), True)
            self.assertIs(meets_surely(lots, [HALF, 0, HALF, 0], way), False)
            # Only the lot of the start counts.
            found = meeting_means(lots, [0, 0, 1, 0], [10 ** 5, -7, 1, 4], way)
            self.assertEqual(found[0], Ratio(5, 2))

    def test_pairs_that_are_not_come_to(self):
        """Places that never meet one another, but are not come to ahead of meeting, do not matter."""
        for way in WAYS:
            for place in range(2):
                start = [int(i == place) for i in range(2)]
                self.assertIs(meets_surely(apart(), start, way), True)
                self.assertIs(meets_surely(ring_walk(2), start, way), False)
            self.assertIs(meets_surely(apart(), [HALF, HALF], way), False)
            self.assertIs(meets_surely(ring_walk(2), [HALF, HALF], way), False)

    def test_nearly(self):
        stream = made(74)
        for walk in walks(75, 4)[::2] + [stayed(turn(), HALF)]:
            worths = [stream.randint(-2, 2) for _ in range(walk.places)]
            for start in starts(stream, walk.places):
                for way in WAYS:
                    found = [float(plain(number)) for number in meeting_means(walk, start, worths, way)]
                    near = told_nearly(walk, start, worths, way, 60)
                    self.assertAlmostEqual(found[0], near[0], delta=1e-3)
                    self.assertAlmostEqual(found[1], near[1], delta=3e-2)

    def test_rows_alike(self):
        """Near one another both meet one step later, where all rows are alike; apart by the chance of this each time."""
        start = [1, 0]
        self.assertEqual(meeting_means(halves(), start, [0, 1], "apart"), (HALF, Ratio(1)))
        self.assertEqual(meeting_means(halves(), start, [0, 1], "near"), (HALF, HALF))
        shares = [Ratio(1, 6), Ratio(1, 3), HALF]
        walk = Walk([shares] * 3, shares)
        for x in range(3):
            start = [int(i == x) for i in range(3)]
            worths = [5, -1, Ratio(1, 2)]
            told = [share * number * number for share, number in zip(shares, [5, -1, HALF])]
            found = meeting_means(walk, start, worths, "near")
            # The worth of the first place is taken away again, that of the next one stays.
            self.assertEqual(found, (mean(walk, worths), Ratio.total(told)))

    def test_refusals(self):
        walk = whole_walk(made(76), 3)
        first = ("walk", walk, InvalidWalk, NOT_WALKS)
        start = ("start", [Ratio(1, 3), 0, Ratio(2, 3)], InvalidStart, WRONG_STARTS)
        worths = ("function", [1, HALF, -3], InvalidFunction, WRONG_FUNCTIONS)
        for one in WAYS:
            way = ("way", one, InvalidWay, WRONG_WAYS)
            for asked, told in [(meets_surely, [first, start, way]), (meeting_means, [first, start, worths, way])]:
                assert_refusals(self, asked, told)
                assert_same_by_name(self, asked, told)
                assert_pure(self, asked, *[row[1] for row in told])
        with self.assertRaises(InvalidWay):
            meeting_means(ring_walk(2), [1, 0], [0, 1], "never")
        with self.assertRaises(InvalidFunction):
            meeting_means(ring_walk(2), [1, 0], [0, 1, 2], "never")
        with self.assertRaises(InvalidStart):
            meeting_means(lean(), [1, 0, 0], [0, 1, 2], "never")


if __name__ == "__main__":
    unittest.main()
