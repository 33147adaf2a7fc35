"""Guesses less spread than others: splittings that show it, hinges that show the contrary."""

import itertools
import unittest
from fractions import Fraction

from equations import plain, plains
from kinds import Own, digits, guess, lean, lists, made, more_spread, not_lists, plain_kinds
from refusals import assert_pure, assert_ratios, assert_refusals, assert_same_by_name, tupled
from surerwalks.errors import InvalidGuess
from surerwalks.ratios import Ratio
from surerwalks.spreads import hinge, is_hinge, is_less_spread, is_splitting, splitting

HALF, THIRD = Ratio(1, 2), Ratio(1, 3)
SURE = [(1, 1)]
TWO = [(HALF, HALF), (HALF, Ratio(3, 2))]
FAR = [(THIRD, 0), (Ratio(2, 3), Ratio(3, 2))]
FOUR = [(Ratio(1, 4), 0), (Ratio(1, 4), HALF), (Ratio(1, 4), 1), (Ratio(1, 4), Ratio(5, 2))]
WRONG_GUESSES = not_lists() + lists() + [
    [(1, 1), (0, 2)], [(HALF, 1), (HALF, 1)], [(HALF, 2), (HALF, 0)], [(HALF, 0), (HALF, 1)], [(1, 2)], [(2, 1)],
    [(HALF, 2)], [(2, HALF)], [(1, HALF), (HALF, 1)], [(Ratio(1, 4), 1), (Ratio(1, 4), 3)],
    [(HALF, 0), (HALF, Ratio(3, 2))], [(HALF, -1), (HALF, 3)], [(-1, 0), (2, HALF)], [[1, 1]], [[HALF, 0], [HALF, 2]], (1, 1),
    [(HALF, 0), [HALF, 2]], [(True, 1)], [(1, True)], [(1,)], [(1, 1, 1)], [(1, 1), None], [(1, "1")], [(HALF, 1)], [()],
    [(Ratio(1, 5), Ratio(k, 2)) for k in range(5)], {(1, 1): 1}, {0: (1, 1)}, "11", [((1, 1),)], [(1, Own())], [Own()], [(1, [1])],
    [(Ratio(1, 3), 0), (Ratio(1, 3), 1), (Ratio(1, 3), Ratio(3))], [(HALF, 1), (THIRD, 2)], [lean()], [(None, None)],
]


def mean_above(told, at):
    return sum(plain(chance) * max(plain(worth) - at, 0) for chance, worth in told)


def told_hinges(one, two):
    """Those of the worths of both, and of the numbers in the middle between them, that are hinges."""
    worths = sorted({plain(worth) for _, worth in list(one) + list(two)})
    points = worths + [(low + high) / 2 for low, high in zip(worths, worths[1:])]
    return [at for at in points if mean_above(one, at) > mean_above(two, at)]


def assert_splits(test, one, two, rows):
    """By sums: what the second one's worths come to, row by row and column by column."""
    test.assertEqual([len(row) for row in rows], [len(two)] * len(one))
    worths = [plain(worth) for _, worth in two]
    for row, (_, worth) in zip(rows, one):
        test.assertTrue(all(plain(number) >= 0 for number in row))
        test.assertEqual(sum(plains(row)), 1)
        test.assertEqual(sum(a * b for a, b in zip(plains(row), worths)), plain(worth))
    for at, (chance, _) in enumerate(two):
        test.assertEqual(sum(plain(told[0]) * plain(row[at]) for told, row in zip(one, rows)), plain(chance))


def long_guess(stream, size):
    """A guess of four worths, told by numbers of so many digits."""
    high = 10 ** size
    while True:
        drawn = [Ratio(stream.randint(1, high // 4), stream.randint(high * 3 // 4, high)) for _ in range(3)]
        worths = [Ratio(stream.randint(1, high), stream.randint(high // 10, high)) for _ in range(3)]
        last = 1 - Ratio.total(drawn)
        worths.append((1 - Ratio.total([a * b for a, b in zip(drawn, worths)])).over(last))
        if worths[-1].sign >= 0:
            return sorted(zip(drawn + [last], worths), key=lambda part: plain(part[1]))


def pairs(seed, times=150):
    """Pairs of guesses, many of them the one more spread than the other."""
    stream = made(seed)
    found = []
    for _ in range(times):
        one, two = guess(stream), guess(stream)
        more = more_spread(stream, one)
        found += [(one, two), (one, more), (more, more_spread(stream, more)), (one, more_spread(stream, more)),
                  (SURE, two), (two, two)]
    return found + [(two, one) for one, two in found]


class TestSpreads(unittest.TestCase):
    def assert_pair(self, one, two):
        less, rows, at = is_less_spread(one, two), splitting(one, two), hinge(one, two)
        self.assertIs(less, not told_hinges(one, two))
        if less:
            self.assertIsNone(at)
            self.assertEqual({type(part) for part in [rows] + rows}, {list})
            assert_ratios(self, rows)
            assert_splits(self, one, two, rows)
            self.assertIs(is_splitting(one, two, rows), True)
            self.assertIs(is_splitting(one, two, tupled(rows)), True)
        else:
            self.assertIsNone(rows)
            self.assertIs(type(at), Ratio)
            self.assertGreater(mean_above(one, plain(at)), mean_above(two, plain(at)))
            self.assertIs(is_hinge(one, two, at), True)
        self.assertEqual((splitting(one, two), hinge(one, two)), (rows, at))
        self.assertEqual((splitting(tuple(one), tuple(two)), hinge(tuple(one), tuple(two))), (rows, at))
        return less

    def test_just_one(self):
        met = {True: 0, False: 0}
        for one, two in pairs(241):
            met[self.assert_pair(one, two)] += 1
        self.assertGreater(min(met.values()), 300)

    def test_itself_and_the_sure_one(self):
        for one, _ in pairs(242, 30):
            self.assertIs(is_less_spread(one, one), True)
            self.assertEqual(splitting(one, one), [[Ratio(int(i == j)) for j in range(len(one))] for i in range(len(one))])
            self.assertIs(is_less_spread(SURE, one), True)
            self.assertEqual(splitting(SURE, one), [[Ratio(0) + chance for chance, _ in one]])
            self.assertIs(is_less_spread(one, SURE), len(one) == 1)

    def test_one_then_another(self):
        """Who is less spread than the less spread is so than the more spread."""
        stream = made(243)
        for _ in range(60):
            one = guess(stream, 2)
            two = more_spread(stream, one)
            three = more_spread(stream, two)
            for less, more in ((one, two), (two, three), (one, three)):
                self.assertIs(is_less_spread(less, more), True)
                self.assertIs(is_less_spread(more, less), False)

    def test_none_of_both(self):
        """Two guesses may be none of them less spread than the other one."""
        one, two = [(HALF, 0), (HALF, 2)], [(Ratio(9, 10), Ratio(8, 9)), (Ratio(1, 10), 2)]
        other = [(Ratio(9, 10), Ratio(7, 9)), (Ratio(1, 10), 3)]
        self.assertEqual([self.assert_pair(two, one), self.assert_pair(one, two)], [True, False])
        self.assertEqual([self.assert_pair(one, other), self.assert_pair(other, one)], [False, False])

    def test_known(self):
        self.assertEqual(splitting(TWO, FAR), [[Ratio(2, 3), THIRD], [Ratio(0), Ratio(1)]])
        self.assertEqual(splitting(SURE, TWO), [[HALF, HALF]])
        self.assertIsNone(hinge(TWO, FAR))
        self.assertEqual(hinge(TWO, SURE), Ratio(1))
        self.assertIsNone(splitting(TWO, SURE))

    def test_long_numbers(self):
        stream = made(244)
        met = {True: 0, False: 0}
        while min(met.values()) < 25:
            told = long_guess(stream, 6), long_guess(stream, 6)
            met[self.assert_pair(*told)] += 1
            for value in (splitting(*told), hinge(*told)):
                self.assertLess(digits(value) if value is not None else 0, 400)

    def test_splittings_are_short(self):
        """Also those of guesses whose own numbers have more than 650 digits."""
        stream = made(249)
        met = 0
        while met < 40:
            told = long_guess(stream, 112), long_guess(stream, 112)
            self.assertGreater(digits(told), 650)
            if is_less_spread(*told):
                met += 1
                self.assertLessEqual(digits(splitting(*told)), 2000)
                self.assert_pair(*told)

    def test_hinges_are_plain(self):
        """No fraction with a lesser bottom is a hinge."""
        met = 0
        for one, two in pairs(250, 40):
            at = hinge(one, two)
            for bottom in range(1, at.bottom if at is not None else 1):
                met += 1
                most = max(plain(worth) for _, worth in one)
                tops = range(int(most * bottom) + 1)
                self.assertFalse(any(is_hinge(one, two, Ratio(top, bottom)) for top in tops))
        self.assertGreater(met, 20)
        few = [(Ratio(1, 10), 0), (Ratio(9, 10), Ratio(10, 9))]
        self.assertEqual(hinge(few, TWO).bottom, 2)

    def test_hinges_are_short(self):
        """Whatever digits the worths have, numbers near to them do as well."""
        long = Ratio(10 ** 2500 + 1, 3 * 10 ** 2500)
        for one, two in (([(HALF, 1 - long), (HALF, 1 + long)], SURE), (SURE, [(HALF, 1 - long), (HALF, 1 + long)]),
                         ([(HALF, 0), (HALF, 2)], [(HALF, 1 - long), (HALF, 1 + long)])):
            self.assertIs(is_less_spread(one, two), one is SURE)
            at = hinge(one, two)
            if at is not None:
                self.assertLess(digits(at), 5)
                self.assertIs(is_hinge(one, two, at), True)
        self.assertEqual(splitting(SURE, [(HALF, 1 - long), (HALF, 1 + long)]), [[HALF, HALF]])
        both = [(HALF, 1 - long), (HALF, 1 + long)]
        self.assertEqual(splitting(both, both), [[Ratio(1), Ratio(0)], [Ratio(0), Ratio(1)]])
        # A narrow room, far from short numbers.
        near = Ratio(10 ** 40 + 7, 10 ** 40)
        told = hinge([(HALF, 2 - near), (HALF, near)], SURE)
        self.assertEqual(told, Ratio(1))
        low, high = Ratio(577, 408), Ratio(1393, 985)
        one = [(HALF, 0), (Ratio(1, 4), low), (Ratio(1, 4), 4 - low)]
        two = [(HALF, 0), (Ratio(1, 4), high), (Ratio(1, 4), 4 - high)]
        less = high.is_below(low)
        self.assertEqual([self.assert_pair(one, two), self.assert_pair(two, one)], [less, not less])


class TestJudges(unittest.TestCase):
    def test_splittings_bent(self):
        stream = made(245)
        met = 0
        for one, two in pairs(246, 25):
            rows = splitting(one, two)
            if rows is None:
                continue
            bent = [rows[:-1], rows + [rows[0]], rows[1:], [row[:-1] for row in rows], [row + [Ratio(0)] for row in rows]]
            for i, j in itertools.product(range(len(one)), range(len(two))):
                for number in (rows[i][j] + Ratio(1, 7), -rows[i][j] - 1, True, False, None, "1", Own(), [rows[i][j]], Ratio(1, 3)):
                    other = [list(row) for row in rows]
                    other[i][j] = number
                    bent.append(other)
            orders = list(itertools.permutations(range(len(one))))
            bent += [[rows[i] for i in stream.choice(orders)], [row[::-1] for row in rows]]
            for value in bent:
                told = self.is_right(one, two, value)
                self.assertIs(is_splitting(one, two, value), told)
                self.assertIs(is_splitting(one, two, tupled(value)), told)
                met += not told
        self.assertGreater(met, 500)

    def is_right(self, one, two, rows):
        for row in rows:
            for number in row:
                if isinstance(number, bool) or not isinstance(number, (int, Ratio)):
                    return False
        try:
            assert_splits(self, one, two, rows)
        except AssertionError:
            return False
        return len(rows) == len(one)

    def test_other_splittings(self):
        """Each one counts, not the told one alone."""
        even = [(HALF, HALF), (HALF, Ratio(3, 2))]
        for part in (Ratio(0), Ratio(1, 8), Ratio(1, 4), Ratio(1, 5)):
            # So much of the middle goes to both worths; the rest is put aside.
            told = [(Ratio(1, 4), 0), (HALF, 1), (Ratio(1, 4), 2)]
            rows = [[HALF, HALF, 0], [0, HALF, HALF]]
            bent = [[HALF + part, HALF - 2 * part, part], [-part, HALF + 2 * part, HALF - part]]
            self.assertIs(is_splitting(even, told, rows), True)
            self.assertIs(is_splitting(even, told, bent), part == Ratio(0))
        wide = [(Ratio(1, 4), 0), (Ratio(1, 4), HALF), (Ratio(1, 4), Ratio(3, 2)), (Ratio(1, 4), 2)]
        for part in (Ratio(0), Ratio(1, 3), HALF):
            # Of each worth so much goes to the far ones.
            near, away = 1 - part, part
            rows = [[away * Ratio(3, 4), near, 0, away * Ratio(1, 4)], [away * Ratio(1, 4), 0, near, away * Ratio(3, 4)]]
            self.assertIs(is_splitting(even, wide, rows), part == HALF)

    def test_any_value(self):
        good = [[[Ratio(2, 3), THIRD], [0, 1]], ((Ratio(2, 3), THIRD), (0, 1)), [(Ratio(2, 3), THIRD), [Ratio(0), Ratio(1)]]]
        for value in good:
            self.assertIs(is_splitting(TWO, FAR, value), True)
        for value in not_lists() + lists() + [
            [[Ratio(2, 3), THIRD]], [[Ratio(2, 3), THIRD], [0, True]], [[Ratio(2, 3), THIRD], [False, 1]],
            [[Ratio(2, 3), THIRD], [0, 1], [0, 1]], [[0, 1], [Ratio(2, 3), THIRD]], [[THIRD, Ratio(2, 3)], [0, 1]],
            [[HALF, HALF], [HALF, HALF]], [[Ratio(2, 3), THIRD], "01"], {0: [Ratio(2, 3), THIRD], 1: [0, 1]},
            [[Ratio(2, 3), THIRD], {0: 0, 1: 1}], [[Ratio(2, 3), THIRD], None], [[Ratio(2, 3), THIRD, 0], [0, 1, 0]], [Own(), Own()],
        ]:
            self.assertIs(is_splitting(TWO, FAR, value), False)
        # There is none: no value is one.
        for value in good + not_lists() + lists() + [[[1], [1]], [[HALF], [HALF]]]:
            self.assertIs(is_splitting(TWO, SURE, value), False)

    def test_hinges(self):
        for value in not_lists()[:len(plain_kinds())] + lists() + [lean(), [1], (1,), "1", [Ratio(1)]]:
            self.assertIs(is_hinge(TWO, SURE, value), False)
            self.assertIs(is_hinge(SURE, TWO, value), False)
        for value in (1, Ratio(1), Ratio(3, 4), Ratio(5, 4), Ratio(51, 100), Ratio(149, 100), Ratio(10 ** 50 + 1, 10 ** 50)):
            self.assertIs(is_hinge(TWO, SURE, value), True)
            self.assertIs(is_hinge(SURE, TWO, value), False)
        for value in (0, 2, -1, HALF, Ratio(3, 2), Ratio(49, 100), Ratio(151, 100), 10 ** 100, -10 ** 100, True):
            self.assertIs(is_hinge(TWO, SURE, value), False)
        for one, two in pairs(247, 15):
            for top in range(-2, 25):
                at = Fraction(top, 6)
                told = mean_above(one, at) > mean_above(two, at)
                self.assertIs(is_hinge(one, two, Ratio(top, 6)), told)


class TestRefusals(unittest.TestCase):
    def test_refusals(self):
        told = [("guess", TWO, InvalidGuess, WRONG_GUESSES), ("other", FAR, InvalidGuess, WRONG_GUESSES)]
        value = ("value", [[Ratio(2, 3), THIRD], [0, 1]], None, [])
        for asked, names in [(is_less_spread, told), (splitting, told), (hinge, told), (is_splitting, told + [value]),
                             (is_hinge, told + [value])]:
            assert_refusals(self, asked, names)
            names = [(row[0], tuple(row[1]) if row[0] != "value" else row[1], *row[2:]) for row in names]
            assert_same_by_name(self, asked, names)
            if asked == splitting:
                assert_pure(self, asked, TWO, FAR)
                assert_pure(self, asked, list(FOUR), list(FOUR))

    def test_guesses(self):
        """One to four worths, the first of them 0 perhaps, lists or tuples of tuples."""
        for one in (SURE, TWO, FAR, FOUR, [(THIRD, 0), (THIRD, 1), (THIRD, 2)], [(Ratio(1), Ratio(1))]):
            for value in (one, tuple(one)):
                self.assertIs(is_less_spread(SURE, value), True)
        for value in WRONG_GUESSES:
            for rest in ((SURE, value), (value, SURE)):
                with self.assertRaises(InvalidGuess) as caught:
                    is_less_spread(*rest)
                self.assertIs(caught.exception.value, value)


if __name__ == "__main__":
    unittest.main()
