"""Walks by guessed weights: the guessed table against the walk of standings, made here."""

import itertools
import unittest

from equations import plain, plains, told_error
from kinds import Own, function, guess, lean, lists, made, more_spread, not_lists, proposals
from refusals import assert_pure, assert_ratios, assert_refusals, assert_refused, assert_same_by_name, tupled
from surerwalks.errors import InvalidGuesses, InvalidProposal, InvalidWeights, NotWhole, TooMany
from surerwalks.forms import is_never_below, worth
from surerwalks.guesses import guessed_table
from surerwalks.ratios import Ratio
from surerwalks.rules import greatest_rule, walk_by
from surerwalks.spreads import is_less_spread
from surerwalks.strays import error_table
from surerwalks.tables import turned
from surerwalks.walks import is_whole

HALF, THIRD = Ratio(1, 2), Ratio(1, 3)
SURE = [(Ratio(1), Ratio(1))]
TWO = [(HALF, HALF), (HALF, Ratio(3, 2))]
FAR = [(THIRD, 0), (Ratio(2, 3), Ratio(3, 2))]
FOUR = [(Ratio(1, 4), Ratio(1, 4)), (Ratio(1, 4), HALF), (Ratio(1, 4), 1), (Ratio(1, 4), Ratio(9, 4))]
CHANGE = [[0, 1], [1, 0]]


def standings_of(proposal, numbers, guesses):
    """The standings with their places, the rows of their walk and its shares, as fractions."""
    rows = [plains(row) for row in proposal]
    told = plains(numbers)
    parts = [[(plain(chance), plain(worth)) for chance, worth in one] for one in guesses]
    standings = [(x, v, chance) for x, one in enumerate(parts) for chance, v in one if v > 0]
    table = []
    for at, (x, v, _) in enumerate(standings):
        row = []
        for y, w, chance in standings:
            there, back = told[x] * v * rows[x][y], told[y] * w * rows[y][x]
            row.append(rows[x][y] * chance * min(1, back / there) if there > 0 else 0)
        row[at] += 1 - sum(row)
        table.append(row)
    return [x for x, _, _ in standings], table, [told[x] * chance * v / sum(told) for x, v, chance in standings]


def hang_together(rows):
    """Whether each standing can be come to from each other one."""
    reached = [{j for j, chance in enumerate(row) if chance > 0} | {i} for i, row in enumerate(rows)]
    for _ in rows:
        reached = [set().union(*[reached[j] for j in one]) for one in reached]
    return all(len(one) == len(rows) for one in reached)


def cases(seed, times=20, most=5):
    stream = made(seed)
    for rows, numbers in proposals(seed + 1, most, times):
        yield stream, rows, numbers, [guess(stream, 3) for _ in rows]


class TestGuessedTable(unittest.TestCase):
    def assert_table(self, stream, rows, numbers, guesses):
        found = guessed_table(rows, numbers, guesses)
        assert_ratios(self, found)
        self.assertEqual([len(row) for row in found], [len(rows)] * len(rows))
        self.assertEqual(found, turned(found))
        places, table, shares = standings_of(rows, numbers, guesses)
        lots = [[int(k in lot) for k in range(len(rows))] for lot in itertools.combinations(range(len(rows)), 2)]
        for worths in lots + [[int(k == i) for k in range(len(rows))] for i in range(len(rows))] + [function(stream, len(rows))]:
            told = plains(worths)
            self.assertEqual(plain(worth(found, worths)), told_error(table, shares, [told[x] for x in places]))
        return found

    def test_tables(self):
        met = {"table": 0, "apart": 0, "many": 0}
        for stream, rows, numbers, guesses in cases(251):
            places, table, shares = standings_of(rows, numbers, guesses)
            self.assertEqual(sum(shares), 1)
            # The shares are kept.
            self.assertEqual([sum(a * b for a, b in zip(shares, column)) for column in zip(*table)], shares)
            if not hang_together(table):
                met["apart"] += 1
                with self.assertRaises(NotWhole):
                    guessed_table(rows, numbers, guesses)
            elif len(places) > 8:
                met["many"] += 1
                self.assert_too_many(rows, numbers, guesses)
            else:
                met["table"] += 1
                self.assert_table(stream, rows, numbers, guesses)
        self.assertGreater(min(met.values()), 2)

    def assert_too_many(self, rows, numbers, guesses):
        with self.assertRaises(TooMany) as caught:
            guessed_table(rows, numbers, guesses)
        self.assertEqual((caught.exception.what, caught.exception.limit), ("standings", 8))

    def test_worths_of_0(self):
        """They are never taken: the walk is that of the other standings."""
        stream = made(253)
        rows = [[THIRD, THIRD, THIRD]] * 3
        found = self.assert_table(stream, rows, [1, 2, 3], [FAR, [(Ratio(9, 10), 0), (Ratio(1, 10), 10)], SURE])
        self.assertEqual(len(found), 3)
        self.assert_table(stream, CHANGE, [1, 5], [FAR, FAR])
        four = [(Ratio(1, 4), 0), (Ratio(1, 4), HALF), (Ratio(1, 4), 1), (Ratio(1, 4), Ratio(5, 2))]
        # Nine worths, but eight of them above 0.
        self.assert_table(stream, rows, [1, 2, 3], [four, four, TWO])

    def test_drawn_anew_where_it_stands(self):
        """A place that is proposed from itself may lead to another worth of it."""
        rows = [[HALF, HALF], [HALF, HALF]]
        one = self.assert_table(made(254), rows, [1, 1], [TWO, SURE])
        self.assertNotEqual(one, self.assert_table(made(254), CHANGE, [1, 1], [TWO, SURE]))

    def test_noughts_and_not_whole(self):
        stream = made(255)
        line = [[HALF, HALF, 0], [HALF, 0, HALF], [0, HALF, HALF]]
        self.assert_table(stream, line, [1, 2, 3], [TWO, SURE, TWO])
        # There alone, never back; places that stay; places apart.
        for rows in ([[0, 1, 0], [0, 0, 1], [1, 0, 0]], [[1, 0, 0], [0, 1, 0], [0, 0, 1]],
                     [[0, 1, 0], [1, 0, 0], [0, 0, 1]], [[0, HALF, HALF], [1, 0, 0], [0, 1, 0]]):
            for guesses in ([SURE] * 3, [TWO] * 3, [FOUR] * 3):
                with self.assertRaises(NotWhole):
                    guessed_table(rows, [1, 2, 3], guesses)
        # Whole by the way over the other place: a worth is changed there alone.
        self.assert_table(stream, [[0, 1], [HALF, HALF]], [3, 1], [FOUR, SURE])

    def test_eight_and_more(self):
        stream = made(256)
        rows = [[HALF, HALF], [HALF, HALF]]
        self.assert_table(stream, rows, [1, 2], [FOUR, FOUR])
        three = [[THIRD] * 3] * 3
        self.assert_table(stream, three, [1, 2, 3], [FOUR, TWO, TWO])
        sixth = [[Ratio(1, 6)] * 6] * 6
        self.assert_table(stream, sixth, [1, 2, 3, 4, 5, 6], [TWO, SURE, SURE, TWO, SURE, SURE])
        for told, guesses in ((three, [FOUR, FOUR, SURE]), (three, [FOUR, FOUR, FOUR]), (sixth, [FOUR] * 6), (sixth, [TWO] * 6),
                              (sixth, [TWO, TWO, TWO, SURE, SURE, SURE])):
            self.assert_too_many(told, list(range(1, len(told) + 1)), guesses)
        # What is not valid comes first, then NotWhole.
        apart = [[int(i == j) for j in range(6)] for i in range(6)]
        with self.assertRaises(NotWhole):
            guessed_table(apart, [1] * 6, [FOUR] * 6)
        with self.assertRaises(InvalidGuesses):
            guessed_table(sixth, [1] * 6, [FOUR] * 5)

    def test_told_another_way(self):
        for _, rows, numbers, guesses in cases(257, 8, 3):
            if len(standings_of(rows, numbers, guesses)[0]) > 8 or not hang_together(standings_of(rows, numbers, guesses)[1]):
                continue
            found = guessed_table(rows, numbers, guesses)
            self.assertEqual(guessed_table(rows, [number * Ratio(7, 3) for number in numbers], guesses), found)
            self.assertEqual(guessed_table(tupled(rows), tupled(numbers), tupled(guesses)), found)
            for order in itertools.permutations(range(len(rows))):
                other = guessed_table([[rows[i][j] for j in order] for i in order], [numbers[i] for i in order],
                                      [guesses[i] for i in order])
                self.assertEqual(other, [[found[i][j] for j in order] for i in order])

    def test_guesses_of_one_worth(self):
        """The error table of the walk by the greatest rule."""
        met = 0
        for rows, numbers in proposals(258):
            walk = walk_by(rows, numbers, greatest_rule(rows, numbers))
            if is_whole(walk):
                met += 1
                self.assertEqual(guessed_table(rows, numbers, [SURE] * len(rows)), error_table(walk))
            else:
                with self.assertRaises(NotWhole):
                    guessed_table(rows, numbers, [SURE] * len(rows))
        self.assertGreater(met, 8)

    def test_more_spread(self):
        """More spread guesses never make a worth less."""
        stream = made(259)
        met = 0
        for rows, numbers in proposals(260, 3, 25):
            guesses = [guess(stream, 2) for _ in rows]
            others = [more_spread(stream, one) if stream.random() < 0.7 else one for one in guesses]
            self.assertTrue(all(is_less_spread(one, two) for one, two in zip(guesses, others)))
            try:
                less, more = guessed_table(rows, numbers, guesses), guessed_table(rows, numbers, others)
            except (NotWhole, TooMany):
                continue
            met += less != more
            self.assertIs(is_never_below([[b - a for a, b in zip(*lines)] for lines in zip(less, more)]), True)
        self.assertGreater(met, 15)

    def test_known(self):
        told = [[str(number) for number in row] for row in guessed_table(CHANGE, [1, 1], [TWO, SURE])]
        self.assertEqual(told, [["3/32", "-3/32"], ["-3/32", "3/32"]])
        self.assertEqual(guessed_table(CHANGE, [1, 1], [[(1, 1)], [(1, 1)]]), [[Ratio(0)] * 2] * 2)


class TestRefusals(unittest.TestCase):
    def test_refusals(self):
        rows, numbers, guesses = [[HALF, HALF], [THIRD, Ratio(2, 3)]], [1, HALF], [TWO, [(1, 1)]]
        wrong_rows = not_lists() + lists() + [[[1, 0], [0, 2]], [[HALF, HALF]], [[1, 0], [True, False]], [[1] + [0] * 6] * 7,
                                              [[1, 0], [Ratio(3, 2), -HALF]], [[1, 0], None]]
        wrong_weights = not_lists() + lists() + [[1], [1, 2, 3], [1, 0], [1, -1], [1, True], [1, None], "12", {0: 1, 1: 2}]
        wrong_guesses = not_lists() + lists() + [
            [TWO], [TWO, TWO, TWO], [TWO, [(1, 2)]], [TWO, None], [TWO, [[1, 1]]], [TWO, (1, 1)], [TWO, [(True, 1)]], {0: TWO, 1: TWO},
            [TWO, [(HALF, 1), (HALF, 1)]], [TWO, []], [[], []], [TWO, Own()], [TWO, lean()], [(1, 1), (1, 1)], [TWO, "11"],
            [[(Ratio(1, 5), Ratio(k, 2)) for k in range(5)], SURE], [TWO, [(HALF, 2), (HALF, 0)]],
        ]
        told = [("proposal", rows, InvalidProposal, wrong_rows), ("weights", numbers, InvalidWeights, wrong_weights),
                ("guesses", guesses, InvalidGuesses, wrong_guesses)]
        assert_refusals(self, guessed_table, told)
        assert_pure(self, guessed_table, rows, numbers, guesses)
        told[2] = ("guesses", [tuple(one) for one in guesses], InvalidGuesses, [])
        assert_same_by_name(self, guessed_table, told)

    def test_as_many_as_places(self):
        for many in (1, 3):
            numbers, guesses = [1] * many, [SURE] * many
            assert_refused(self, InvalidWeights, numbers, lambda: guessed_table(CHANGE, numbers, guesses))
            assert_refused(self, InvalidGuesses, guesses, lambda: guessed_table(CHANGE, [1, 1], guesses))


if __name__ == "__main__":
    unittest.main()
