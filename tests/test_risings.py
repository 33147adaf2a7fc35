"""Orders for functions that rise, and behind so many steps."""

import itertools
import math
import unittest
from unittest import mock

from kinds import Own, apart, backed, digits, drawn, even_pairs, halves, like_pairs, lists, made, mixed_walk, not_integers
from kinds import not_lists, ring_walk, six_digits, stayed, turn, whole_walk
from refusals import assert_pure, assert_ratios, assert_refusals, assert_same_by_name, assert_unlike
from surerwalks.errors import InvalidMany, InvalidWalk, NotWhole, UnlikePlaces, UnlikeShares
from surerwalks.forms import is_never_below, worth
from surerwalks.orders import is_surer, is_worse_paper, step_form
from surerwalks.ratios import Ratio
from surerwalks.risings import is_surer_after, is_surer_rising, is_worse_rising_paper, worse_after, worse_rising
from surerwalks.strays import after, after_table, error, error_table
from surerwalks.walks import Walk, walk_of

HALF = Ratio(1, 2)
NOT_WALKS = not_lists()[:-1] + lists()
WRONG_COUNTS = not_integers() + [0, -1, 13, 10 ** 29]


def both_ways(pairs):
    return pairs + [(other, walk) for walk, other in pairs]


def rising(places, most):
    """Rising functions that begin at 0, with INTEGERS below so many as steps."""
    for steps in itertools.product(range(most), repeat=places - 1):
        yield list(itertools.accumulate(steps, initial=0))


def differences(walk, other):
    """Both error tables as INTEGERS over one bottom, the other one's less the walk's."""
    rows = [[two - one for one, two in zip(*both)] for both in zip(error_table(walk), error_table(other))]
    return whole(rows)


def whole(rows):
    bottom = 1
    for row in rows:
        for number in row:
            bottom = bottom * number.bottom // math.gcd(bottom, number.bottom)
    return [[number.top * (bottom // number.bottom) for number in row] for row in rows]


def worth_of(rows, worths):
    return sum(rows[i][j] * one * two for i, one in enumerate(worths) for j, two in enumerate(worths))


class TestRising(unittest.TestCase):
    def assert_rising(self, walk, other):
        found, worths = is_surer_rising(walk, other), worse_rising(walk, other)
        self.assertIs(type(found), bool)
        self.assertIs(found, worths is None)
        if found:
            rows = differences(walk, other)
            for numbers in rising(walk.places, {2: 9, 3: 9, 4: 6, 5: 4, 6: 3}[walk.places]):
                self.assertGreaterEqual(worth_of(rows, numbers), 0)
        else:
            self.assert_worse(walk, other, worths)
        return found

    def assert_worse(self, walk, other, worths):
        self.assertIs(type(worths), list)
        self.assertEqual(len(worths), walk.places)
        assert_ratios(self, worths)
        self.assertLessEqual(digits(worths), 2000)
        self.assertTrue(all(low.is_at_most(high) for low, high in zip(worths, worths[1:])))
        self.assertTrue(error(other, worths).is_below(error(walk, worths)))
        self.assertIs(is_worse_rising_paper(walk, other, worths), True)
        self.assertIs(is_worse_rising_paper(walk, other, tuple(worths)), True)
        self.assertIs(is_worse_rising_paper(other, walk, worths), False)

    def test_rising(self):
        met = {True: 0, False: 0}
        for walk, other in both_ways(like_pairs(111) + even_pairs(112)):
            found = self.assert_rising(walk, other)
            met[found] += 1
            if is_surer(walk, other):
                self.assertIs(found, True)
        self.assertGreater(min(met.values()), 20)

    def test_surer_for_rising_functions_alone(self):
        stream = made(113)
        met = 0
        for places in (3, 4, 5, 6) * 12:
            walk = whole_walk(stream, places)
            for one, two in both_ways([(walk, drawn(walk)), (drawn(walk), stayed(backed(walk), Ratio(1, 9)))]):
                if self.assert_rising(one, two) and not is_surer(one, two):
                    met += 1
        self.assertGreater(met, 2)
        third = Ratio(1, 3)
        lot, line = walk_of([[third] * 3] * 3), walk_of([[HALF, HALF, 0], [HALF, 0, HALF], [0, HALF, HALF]])
        self.assertIs(is_surer_rising(lot, line), True)
        self.assertIs(is_surer(lot, line), False)
        self.assertIsNone(worse_rising(lot, line))
        self.assertIs(is_worse_paper(lot, line, [0, 1, 0]), True)
        self.assertIs(is_worse_rising_paper(lot, line, [0, 1, 0]), False)

    def test_itself(self):
        for walk, _ in like_pairs(114):
            self.assertIs(is_surer_rising(walk, walk), True)
            self.assertIs(is_worse_rising_paper(walk, walk, list(range(walk.places))), False)

    def test_judge(self):
        lot, line = walk_of([[Ratio(1, 3)] * 3] * 3), walk_of([[HALF, HALF, 0], [HALF, 0, HALF], [0, HALF, HALF]])
        for value in [[0, 1, 2], (0, 1, 2), [Ratio(-1), Ratio(1, 2), 2], [-3, 0, 3], [5, 6, 7],
                      [0, 10 ** 199, 2 * 10 ** 199], [0, 0, 1]]:
            self.assertIs(is_worse_rising_paper(line, lot, value), True)
            self.assertIs(is_worse_rising_paper(lot, line, value), False)
        # A function that falls has the same error, and is no paper.
        self.assertIs(is_worse_paper(line, lot, [2, 1, 0]), True)
        for value in [[2, 1, 0], [0, 0, 0], [1, 1, 1], [0, 1], [0, 1, 2, 3], [0, True, 2], [False, 1, 2],
                      [0, 1, None], [0, 1, "2"], "012",
                      {0: 0, 1: 1, 2: 2}, [[0, 1, 2]], [(0, 1, 2)], [0, 1, [2]], [0, 2, 1], [0, -1, 9], [0, 1, Own()],
                      [Own()] * 3, Own()]:
            self.assertIs(is_worse_rising_paper(line, lot, value), False)
        for value in not_lists() + lists() + [lot, [lot] * 3, ((),)]:
            self.assertIs(is_worse_rising_paper(line, lot, value), False)
            self.assertIs(is_worse_rising_paper(lot, line, value), False)

    def test_judge_of_told_functions(self):
        for walk, other in both_ways(like_pairs(115, 5)):
            worths = worse_rising(walk, other)
            if worths is not None:
                for value in [worths[:-1], worths + [worths[-1]], [worths], worths[::-1], [worths[-1]] * walk.places,
                              worths[:-1] + [None], worths[:-1] + [True], dict(enumerate(worths)),
                              worths[:-1] + [worths[0] - 1]]:
                    self.assertIs(is_worse_rising_paper(walk, other, value), False)
                self.assertIs(is_worse_rising_paper(walk, other, [3 * number - 7 for number in worths]), True)

    def test_long_numbers(self):
        stream = made(116)
        for places in range(2, 7):
            walk = six_digits(stream, places)
            half = mixed_walk(walk, backed(walk), HALF)
            for one, two in ((half, walk), (drawn(walk), half), (stayed(walk, Ratio(123457, 999983)), walk)):
                for first, second in ((one, two), (two, one)):
                    worths = worse_rising(first, second)
                    self.assertIs(is_surer_rising(first, second), worths is None)
                    if worths is not None:
                        self.assert_worse(first, second, worths)

    def test_long_functions_are_shortened(self):
        """Where the worths that are found first are too long, near ones are told."""
        stream = made(1)
        pairs = like_pairs(117)
        for walk in [six_digits(stream, 3) for _ in range(30)]:
            pairs += [(walk, drawn(walk)), (walk, stayed(walk, Ratio(1, 3))), (walk, mixed_walk(walk, backed(walk), HALF))]
        met = {True: 0, False: 0}
        for walk, other in both_ways(pairs):
            first = worse_rising(walk, other)
            if first is not None:
                with mock.patch("surerwalks.risings.is_short", lambda numbers: False):
                    worths = worse_rising(walk, other)
                met[digits(first) > 20] += 1
                self.assert_worse(walk, other, worths)
                self.assertLessEqual(digits(worths), 20)
        self.assertGreater(min(met.values()), 0)


class TestAfter(unittest.TestCase):
    def assert_after(self, walk, other, many):
        found, worths = is_surer_after(walk, other, many), worse_after(walk, other, many)
        self.assertIs(type(found), bool)
        self.assertIs(found, worths is None)
        if found:
            rows = [
                [two - one for one, two in zip(*both)]
                for both in zip(*[after_table(one, one.shares(), many) for one in (walk, other)])
            ]
            self.assertIs(is_never_below(rows), True)
            numbers = whole(rows)
            for worths in itertools.product(range(-1, 2), repeat=walk.places):
                self.assertGreaterEqual(worth_of(numbers, worths), 0)
        else:
            self.assertIs(type(worths), list)
            self.assertEqual(len(worths), walk.places)
            assert_ratios(self, worths)
            self.assertLessEqual(digits(worths), 2000)
            both = [after(one, one.shares(), many, worths) for one in (walk, other)]
            self.assertTrue(both[1].is_below(both[0]))
            self.assertEqual(worth(after_table(walk, walk.shares(), many), worths), both[0])
        return found

    def test_after(self):
        met = {True: 0, False: 0}
        for walk, other in both_ways(like_pairs(118, 5)[::3] + even_pairs(119, 4)[::3]):
            for many in (1, 2, 3, 5, 12):
                found = self.assert_after(walk, other, many)
                met[found] += 1
                if many == 1:
                    self.assertIs(found, True)
                if many == 2:
                    self.assertIs(found, is_never_below(step_form(walk, other)))
        self.assertGreater(min(met.values()), 20)

    def test_not_whole(self):
        third = Ratio(1, 3)
        stays, swaps = Walk([[1, 0], [0, 1]], [HALF, HALF]), ring_walk(2)
        some = [(stays, halves()), (halves(), stays), (stays, stays), (stays, swaps), (swaps, stays)]
        three = Walk([[0, 1, 0], [1, 0, 0], [0, 0, 1]], [third] * 3)
        some += [(three, turn()), (turn(), three), (three, drawn(three)), (drawn(three), three)]
        for walk, other in some:
            for many in range(1, 13):
                self.assert_after(walk, other, many)
        for many in range(2, 13):
            self.assertIs(is_surer_after(halves(), stays, many), True)
            self.assertIs(is_surer_after(stays, halves(), many), False)

    def test_surer_but_not_behind_three_steps(self):
        found = 0
        for walk, other in both_ways(like_pairs(120, 4) + [(turn(), mixed_walk(turn(), backed(turn()), HALF))]):
            if is_surer(walk, other) and not is_surer_after(walk, other, 3):
                found += 1
                self.assert_after(walk, other, 3)
        self.assertGreater(found, 0)

    def test_long_numbers(self):
        stream = made(121)
        for places in (2, 4, 6):
            walk = six_digits(stream, places)
            half = mixed_walk(walk, backed(walk), HALF)
            for one, two in ((half, walk), (walk, half), (walk, drawn(walk)), (drawn(walk), walk)):
                for many in (2, 3, 12):
                    worths = worse_after(one, two, many)
                    self.assertIs(is_surer_after(one, two, many), worths is None)
                    if worths is not None:
                        self.assertLessEqual(digits(worths), 2000)
                        both = [after(each, each.shares(), many, worths) for each in (one, two)]
                        self.assertTrue(both[1].is_below(both[0]))


class TestRefusals(unittest.TestCase):
    def test_refusals(self):
        walk = whole_walk(made(122), 3)
        first, second = ("walk", walk, InvalidWalk, NOT_WALKS), ("other", stayed(walk, HALF), InvalidWalk, NOT_WALKS)
        many = ("many", 4, InvalidMany, WRONG_COUNTS)
        for asked, told in [(is_surer_rising, [first, second]), (worse_rising, [first, second]),
                            (is_surer_after, [first, second, many]), (worse_after, [first, second, many]),
                            (is_worse_rising_paper, [first, second, ("value", [0, 1, 2], None, [])])]:
            rest = [row[1] for row in told[2:]]
            assert_refusals(self, asked, told)
            assert_same_by_name(self, asked, told)
            assert_pure(self, asked, walk, stayed(walk, HALF), *rest)
            assert_pure(self, asked, stayed(walk, HALF), walk, *rest)
            assert_unlike(self, asked, *rest)
        for value in ([0, 1, 2], (0, 1, 2), None, "a", [1, [2]]):
            assert_same_by_name(self, is_worse_rising_paper, [first, second, ("value", value)])
            assert_unlike(self, is_worse_rising_paper, value)

    def test_behind_the_parameters(self):
        stays = Walk([[1, 0], [0, 1]], [HALF, HALF])
        for one, two in ((stays, halves()), (halves(), stays), (stays, stays)):
            for call in (lambda: is_surer_rising(one, two), lambda: worse_rising(one, two),
                         lambda: is_worse_rising_paper(one, two, [0, 1]), lambda: is_worse_rising_paper(one, two, None)):
                with self.assertRaises(NotWhole):
                    call()
        for asked in (is_surer_after, worse_after):
            for other, error_told in ((turn(), UnlikePlaces), (apart(), UnlikeShares)):
                with self.assertRaises(InvalidMany):
                    asked(stays, other, 13)
                with self.assertRaises(error_told):
                    asked(stays, other, 12)


if __name__ == "__main__":
    unittest.main()
