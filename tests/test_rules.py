"""Proposals, weights, rules and the walks by them."""

import itertools
import unittest

from kinds import Own, apart, backed, digits, drawn, lean, lists, made, mixed_walk, not_lists, proposals, ring_walk
from kinds import plain_kinds, turn
from refusals import assert_pure, assert_ratios, assert_refusals, assert_refused, assert_same_by_name, tupled
from surerwalks.errors import InvalidProposal, InvalidTaken, InvalidWalk, InvalidWeights, UnlikePlaces, UnlikeShares
from surerwalks.forms import is_never_below
from surerwalks.orders import is_surer
from surerwalks.ratios import Ratio
from surerwalks.rules import greatest_rule, half_rule, is_rule, rule_of, walk_by
from surerwalks.strays import error_table, spread_table
from surerwalks.walks import Walk, is_alike_backwards, is_whole

HALF = Ratio(1, 2)
NOT_WALKS = not_lists()[:-1] + lists()
WRONG_PROPOSALS = not_lists() + lists() + [
    [[1]], [[HALF, HALF]], [[1, 0], [0, 1, 0]], [[1, 0], [1]], [[1, 0], [0, 2]], [[2, -1], [0, 1]], [[1, 0], [0, HALF]],
    [[1, 0], [True, False]], [[1, 0], [None, 1]], [[1, 0], "01"], [[1, 0], {0: 0, 1: 1}], [[0, 0], [0, 0]],
    [[1, 0, 0], [0, 1, 0]], [[1] + [0] * 6] * 7, [[Ratio(3, 2), Ratio(-1, 2)], [0, 1]], [(1, 0), (0, "1")],
]
WRONG_WEIGHTS = not_lists() + lists() + [
    [1], [1, 2, 0], [1, 2, -1], [1, 2, Ratio(-1, 9)], [1, 2], [1, 2, 3, 4], [1, 2, True], [1, 2, None], [1, "2", 3], "123",
    [1, 2, [3]], {0: 1, 1: 2, 2: 3}, [0, 1, 2], [Ratio(0), 1, 1],
]


def told_flows(rows, numbers):
    whole = Ratio.total(numbers)
    return [[number.over(whole) * chance for chance in row] for number, row in zip(numbers, rows)]


def some_rule(stream, rows, numbers):
    """A rule made of the greatest one: less is taken, alike there and back; anything where it does not matter."""
    places, taken, flows = range(len(rows)), greatest_rule(rows, numbers), told_flows(rows, numbers)
    for i in places:
        for j in places:
            if j < i:
                part = Ratio(stream.randint(0, 4), 4)
                taken[i][j], taken[j][i] = part * taken[i][j], part * taken[j][i]
    for i in places:
        for j in places:
            if i == j or flows[i][j].sign == 0:
                taken[i][j] = Ratio(stream.randint(0, 4), 4)
    return taken


class TestIsRule(unittest.TestCase):
    def test_numbers(self):
        stream = made(131)
        for rows, numbers in proposals(132):
            flows, places = told_flows(rows, numbers), range(len(rows))
            taken = some_rule(stream, rows, numbers)
            for value in (taken, tupled(taken), [tuple(row) for row in taken], tuple(list(row) for row in taken),
                          greatest_rule(rows, numbers), half_rule(rows, numbers), [[0] * len(rows) for _ in places]):
                self.assertIs(is_rule(rows, numbers, value), True)
            for i, j in itertools.product(places, repeat=2):
                for number in (0, 1, HALF, Ratio(1, 7), Ratio(0), -1, 2, Ratio(-1, 9), Ratio(10, 9), True, False,
                               None, "1", Own(), [1]):
                    other = [list(row) for row in taken]
                    other[i][j] = number
                    plain = isinstance(number, Ratio) or type(number) is int
                    told = plain and Ratio(0).is_at_most(number) and Ratio(1).is_below(number) is False
                    if told and i != j:
                        told = flows[i][j] * number == flows[j][i] * taken[j][i]
                    self.assertIs(is_rule(rows, numbers, other), told)

    def test_there_alone(self):
        """What is proposed there, but never back, is never taken; back any number may stand."""
        rows = [[HALF, HALF, 0], [0, 0, 1], [1, 0, 0]]
        self.assertIs(is_rule(rows, [1, 2, 3], [[1, 0, HALF], [1, 1, 0], [0, Ratio(1, 3), 0]]), True)
        self.assertIs(is_rule(rows, [1, 2, 3], [[1, HALF, HALF], [1, 1, 0], [0, 1, 0]]), False)
        zeros = [[Ratio(0)] * 3] * 3
        self.assertEqual(greatest_rule(rows, [1, 2, 3]), zeros)
        self.assertEqual(half_rule(rows, [1, 2, 3]), zeros)
        self.assertEqual(walk_by(rows, [1, 2, 3], zeros).rows(), [[Ratio(int(i == j)) for j in range(3)] for i in range(3)])

    def test_any_value(self):
        rows, numbers = [[0, 1], [1, 0]], [1, 2]
        for value in [[[0, 1], [HALF, 0]], ((0, 1), (HALF, 0)), [[1, Ratio(2, 5)], [Ratio(1, 5), 0]], [[0, 0], [0, 0]]]:
            self.assertIs(is_rule(rows, numbers, value), True)
        for value in not_lists() + lists() + plain_kinds() + [
            [[0, 1], [1, 0]], [[0, True], [HALF, 0]], [[False, 1], [HALF, 0]], [[0, 1], [HALF, 0], [0, 0]], [[0, 1]],
            [[0, 1, 0], [HALF, 0, 0]],
            [[0, 1], [HALF]], [[0, 1], [HALF, None]], [[0, 1], "10"], {0: [0, 1], 1: [HALF, 0]},
            [{0: 0, 1: 1}, [HALF, 0]], [[2, 1], [HALF, 0]],
            [[-1, 1], [HALF, 0]], [[0, 2], [1, 0]], [[0, -1], [-HALF, 0]], [[[0], [1]], [HALF, 0]],
            [[Own(), 1], [HALF, 0]], [Own(), Own()],
            lean(), [lean(), lean()],
        ]:
            self.assertIs(is_rule(rows, numbers, value), False)


class TestRules(unittest.TestCase):
    def test_greatest_and_half(self):
        for rows, numbers in proposals(133):
            flows, places = told_flows(rows, numbers), range(len(rows))
            greatest, half = greatest_rule(rows, numbers), half_rule(rows, numbers)
            for found in (greatest, half):
                self.assertEqual({type(one) for one in [found] + found}, {list})
                assert_ratios(self, found)
            for i in places:
                for j in places:
                    there, back = flows[i][j], flows[j][i]
                    if i == j or there.sign == 0:
                        self.assertEqual((greatest[i][j], half[i][j]), (Ratio(0), Ratio(0)))
                    else:
                        whole = back.over(there)
                        self.assertEqual(greatest[i][j], whole if whole.is_below(1) else Ratio(1))
                        self.assertEqual(half[i][j], back.over(there + back))

    def test_walk_by(self):
        stream = made(134)
        for rows, numbers in proposals(135):
            places = range(len(rows))
            whole = Ratio.total(numbers)
            for taken in (greatest_rule(rows, numbers), half_rule(rows, numbers), some_rule(stream, rows, numbers)):
                walk = walk_by(rows, numbers, taken)
                self.assertEqual(walk.shares(), [number.over(whole) for number in numbers])
                self.assertIs(is_alike_backwards(walk), True)
                for i in places:
                    told = [rows[i][j] * taken[i][j] if i != j else Ratio(0) for j in places]
                    told[i] = 1 - Ratio.total(told)
                    self.assertEqual(walk.rows()[i], told)

    def test_rule_of(self):
        stream = made(136)
        for rows, numbers in proposals(137):
            places = range(len(rows))
            for taken in (greatest_rule(rows, numbers), half_rule(rows, numbers), some_rule(stream, rows, numbers)):
                found = rule_of(rows, numbers, walk_by(rows, numbers, taken))
                self.assertEqual({type(one) for one in [found] + found}, {list})
                assert_ratios(self, found)
                told = [[taken[i][j] if i != j and rows[i][j].sign > 0 else Ratio(0) for j in places] for i in places]
                self.assertEqual(found, told)

    def test_no_rule(self):
        """Exactly if the walk goes where nothing is proposed, oftener than proposed, or otherwise there than back."""
        stream = made(138)
        met = {True: 0, False: 0}
        for rows, numbers in proposals(139, 5, 12):
            shares = walk_by(rows, numbers, half_rule(rows, numbers)).shares()
            stays = Walk([[int(i == j) for j in range(len(rows))] for i in range(len(rows))], shares)
            others, _ = stream.choice([one for one in proposals(140, 5, 12) if len(one[0]) == len(rows)])
            other = walk_by(others, numbers, greatest_rule(others, numbers))
            greatest = walk_by(rows, numbers, greatest_rule(rows, numbers))
            for walk in (stays, drawn(stays), other, greatest, mixed_walk(greatest, other, HALF),
                         mixed_walk(greatest, stays, HALF)):
                told = all(
                    walk.rows()[i][j].is_at_most(rows[i][j])
                    for i, j in itertools.permutations(range(len(rows)), 2)
                )
                found = rule_of(rows, numbers, walk)
                self.assertIs(found is not None, told and is_alike_backwards(walk))
                met[found is None] += 1
                if found is not None:
                    self.assertIs(is_rule(rows, numbers, found), True)
                    self.assertEqual(walk_by(rows, numbers, found), walk)
        self.assertGreater(min(met.values()), 20)
        third = Ratio(1, 3)
        self.assertIsNone(rule_of([[third] * 3] * 3, [1, 1, 1], mixed_walk(turn(), drawn(turn()), Ratio(1, 9))))
        self.assertIsNone(rule_of([[third] * 3] * 3, [1, 1, 1], turn()))
        self.assertIsNone(rule_of([[0, 1, 0], [0, 0, 1], [1, 0, 0]], [1, 1, 1], turn()))
        self.assertIsNone(rule_of([[0, HALF, HALF], [HALF, 0, HALF], [HALF, HALF, 0]], [1, 1, 1], turn()))
        self.assertIsNone(rule_of([[1, 0], [0, 1]], [1, 1], ring_walk(2)))
        self.assertEqual(rule_of([[1, 0], [0, 1]], [1, 2], apart()), [[Ratio(0)] * 2] * 2)

    def test_weights_times_a_number(self):
        stream = made(141)
        for rows, numbers in proposals(142):
            more = [number * Ratio(7, 3) for number in numbers]
            self.assertEqual(greatest_rule(rows, more), greatest_rule(rows, numbers))
            self.assertEqual(half_rule(rows, more), half_rule(rows, numbers))
            taken = some_rule(stream, rows, numbers)
            self.assertEqual(walk_by(rows, more, taken), walk_by(rows, numbers, taken))
            walk = walk_by(rows, numbers, taken)
            self.assertEqual(rule_of(rows, more, walk), rule_of(rows, numbers, walk))

    def test_greatest_is_surest(self):
        stream = made(143)
        met = 0
        for rows, numbers in proposals(144):
            greatest, half = [walk_by(rows, numbers, made_by(rows, numbers)) for made_by in (greatest_rule, half_rule)]
            self.assertIs(is_whole(greatest), is_whole(half))
            if not is_whole(greatest):
                continue
            met += 1
            self.assertIs(is_surer(greatest, half), True)
            for _ in range(3):
                other = walk_by(rows, numbers, some_rule(stream, rows, numbers))
                if is_whole(other):
                    self.assertIs(is_surer(greatest, other), True)
            tables = zip(spread_table(half), error_table(greatest), error_table(half))
            more = [[one + 2 * two - three for one, two, three in zip(*lines)] for lines in tables]
            self.assertIs(is_never_below(more), True)
        self.assertGreater(met, 10)

    def test_long_numbers(self):
        stream = made(145)
        for places in (2, 6):
            rows = []
            for _ in range(places):
                row = [Ratio(stream.randint(1, 999999 // places), stream.randint(900000, 999999)) for _ in range(places - 1)]
                rows.append(row + [1 - Ratio.total(row)])
            numbers = [Ratio(stream.randint(1, 999999), stream.randint(1, 999999)) for _ in range(places)]
            for taken in (greatest_rule(rows, numbers), half_rule(rows, numbers)):
                self.assertEqual(rule_of(rows, numbers, walk_by(rows, numbers, taken)), taken)
                self.assertLess(digits(taken), 200)


class TestRefusals(unittest.TestCase):
    def test_refusals(self):
        rows, numbers = [[0, HALF, HALF], [HALF, 0, HALF], [HALF, HALF, 0]], [1, Ratio(1, 2), 3]
        first, second = ("proposal", rows, InvalidProposal, WRONG_PROPOSALS), ("weights", numbers, InvalidWeights,
                                                                               WRONG_WEIGHTS)
        taken = half_rule(rows, numbers)
        walk = walk_by(rows, numbers, taken)
        wrong = not_lists() + lists() + [
            [[0, 1, 1]] * 3, taken[:-1], taken + [[0, 0, 0]], [row[:-1] for row in taken], [row + [0] for row in taken],
            [[2, 0, 0], [0, 0, 0], [0, 0, 0]], [[True, 0, 0], [0, 0, 0], [0, 0, 0]], [[0, 0, 0], [0, -1, 0], [0, 0, 0]],
            [[0, 0, 0], [0, 0, None], [0, 0, 0]], dict(enumerate(taken)), [[0, 0, 0], [1, 0, 0], [0, 0, 0]],
        ]
        third, last = ("taken", taken, InvalidTaken, wrong), ("walk", walk, InvalidWalk, NOT_WALKS)
        for asked, told in [(greatest_rule, [first, second]), (half_rule, [first, second]), (walk_by, [first, second, third]),
                            (rule_of, [first, second, last]), (is_rule, [first, second, ("value", taken, None, [])])]:
            assert_refusals(self, asked, told)
            assert_same_by_name(self, asked, told)
            assert_pure(self, asked, *[row[1] for row in told])
        for value in (None, "a", [1, [2]]):
            assert_same_by_name(self, is_rule, [first, second, ("value", value)])

    def test_as_many_weights_as_places(self):
        rows = [[0, 1], [1, 0]]
        for numbers in ([1], [1, 1, 1], []):
            for asked, rest in [(greatest_rule, []), (half_rule, []), (is_rule, [None]), (walk_by, [None]), (rule_of, [None])]:
                assert_refused(self, InvalidWeights, numbers, lambda: asked(rows, numbers, *rest))

    def test_walks_that_do_not_go_with_the_weights(self):
        rows = [[0, 1], [1, 0]]
        with self.assertRaises(UnlikePlaces):
            rule_of(rows, [1, 1], turn())
        with self.assertRaises(UnlikePlaces):
            rule_of(turn().rows(), [1, 1, 1], lean())
        with self.assertRaises(UnlikeShares):
            rule_of(rows, [1, 1], lean())
        with self.assertRaises(UnlikeShares):
            rule_of(rows, [2, 1], backed(lean()))
        self.assertIsNotNone(rule_of(rows, [1, 2], lean()))


if __name__ == "__main__":
    unittest.main()
