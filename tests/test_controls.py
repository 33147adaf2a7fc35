"""Controls: what functions make, functions controlled, best numbers and the error with them."""

import itertools
import unittest

from equations import plains
from kinds import Own, any_walk, apart, digits, function, halves, lean, lists, made, not_lists, ratio, ring_walk, six_digits
from kinds import turn, walks
from refusals import assert_pure, assert_ratios, assert_refusals, assert_refused, assert_same_by_name, tupled
from surerwalks.controls import best_error, best_numbers, control, controlled
from surerwalks.errors import InvalidControls, InvalidFunction, InvalidNumbers, InvalidWalk, NotWhole
from surerwalks.ratios import Ratio
from surerwalks.strays import ahead, error, error_table, mean
from surerwalks.walks import Walk, is_whole

HALF = Ratio(1, 2)
NOT_WALKS = not_lists()[:-1] + lists()


def told_control(walk, worths):
    rows = [plains(row) for row in walk.rows()]
    told = plains(worths)
    return [own - sum(chance * number for chance, number in zip(row, told)) for own, row in zip(told, rows)]


def told_left(walk, worths, controls, numbers):
    """The function less the controls times the numbers, as Ratios."""
    left = plains(worths)
    for one, number in zip(controls, plains(numbers)):
        left = [a - number * b for a, b in zip(left, told_control(walk, one))]
    return [Ratio(number.numerator, number.denominator) for number in left]


def cases(seed, most=5):
    stream = made(seed)
    some = walks(seed, most) + [turn(), ring_walk(2), ring_walk(4), halves(), lean()]
    for walk in some:
        for many in (1, 2, 3):
            controls = [function(stream, walk.places) for _ in range(many)]
            yield stream, walk, function(stream, walk.places), controls


class TestControl(unittest.TestCase):
    def test_control(self):
        stream = made(221)
        some = walks(222, 6) + [apart(), any_walk(stream, 4), any_walk(stream, 6), turn()]
        for walk in some:
            worths = function(stream, walk.places)
            found = control(walk, worths)
            self.assertIs(type(found), list)
            assert_ratios(self, found)
            self.assertEqual(plains(found), told_control(walk, worths))
            self.assertEqual(mean(walk, found), Ratio(0))
            self.assertEqual(control(walk, [Ratio(5, 7)] * walk.places), [Ratio(0)] * walk.places)
        self.assertEqual(control(apart(), [3, 5]), [Ratio(0), Ratio(0)])
        self.assertEqual(control(ring_walk(2), [0, 1]), [Ratio(-1), Ratio(1)])

    def test_controlled(self):
        for stream, walk, worths, controls in cases(223):
            for numbers in ([ratio(stream) for _ in controls], [0] * len(controls), [1] + [0] * (len(controls) - 1)):
                found = controlled(walk, worths, controls, numbers)
                self.assertIs(type(found), Ratio)
                self.assertEqual(found, error(walk, told_left(walk, worths, controls, numbers)))
            self.assertEqual(controlled(walk, worths, controls, [0] * len(controls)), error(walk, worths))


class TestBest(unittest.TestCase):
    def assert_best(self, stream, walk, worths, controls):
        found, least = best_numbers(walk, worths, controls), best_error(walk, worths, controls)
        self.assertIs(type(found), list)
        self.assertEqual(len(found), len(controls))
        assert_ratios(self, found)
        self.assertIs(type(least), Ratio)
        self.assertEqual(controlled(walk, worths, controls, found), least)
        self.assertEqual(found, best_numbers(walk, worths, controls))
        self.assertEqual(least, best_error(walk, worths, controls))
        # The error bends upwards along each number: no step there or back makes it less, so none at all does.
        table = [plains(row) for row in error_table(walk)]
        left = plains(told_left(walk, worths, controls, found))
        for one in controls:
            made_of = told_control(walk, one)
            across = sum(made_of[i] * number * left[j] for i, row in enumerate(table) for j, number in enumerate(row))
            self.assertEqual(across, 0)
        for _ in range(4):
            others = [number + ratio(stream) for number in found]
            self.assertTrue(least.is_at_most(controlled(walk, worths, controls, others)))
        for at in range(len(found)):
            for step in (Ratio(1, 1000), Ratio(-1, 1000)):
                others = found[:at] + [found[at] + step] + found[at + 1:]
                self.assertTrue(least.is_at_most(controlled(walk, worths, controls, others)))
        return found, least

    def test_best(self):
        for stream, walk, worths, controls in cases(224, 6):
            self.assert_best(stream, walk, worths, controls)

    def test_no_other_numbers(self):
        for stream, walk, worths, controls in cases(225, 4):
            found, least = best_numbers(walk, worths, controls), best_error(walk, worths, controls)
            for steps in itertools.product([Ratio(-1), Ratio(0), Ratio(1, 9)], repeat=len(controls)):
                others = [number + step for number, step in zip(found, steps)]
                self.assertTrue(least.is_at_most(controlled(walk, worths, controls, others)))

    def test_controls_that_hang_together(self):
        stream = made(226)
        for walk in walks(227, 6):
            worths, one, two = [function(stream, walk.places) for _ in range(3)]
            flat = [Ratio(4)] * walk.places
            more = [a + 2 * b - 3 for a, b in zip(one, two)]
            alone = self.assert_best(stream, walk, worths, [one])[1]
            both = self.assert_best(stream, walk, worths, [one, two])[1]
            for controls in ([one, one], [one, one, one], [one, flat], [flat, one, flat], [[3 * number for number in one], one]):
                self.assertEqual(self.assert_best(stream, walk, worths, controls)[1], alone)
            for controls in ([one, two, more], [more, one], [two, more, flat], [one, two, one]):
                self.assertEqual(self.assert_best(stream, walk, worths, controls)[1], both)
            for controls in ([flat], [flat, flat], [[0] * walk.places, flat, flat]):
                self.assertEqual(self.assert_best(stream, walk, worths, controls)[1], error(walk, worths))
            self.assertTrue(both.is_at_most(alone) and alone.is_at_most(error(walk, worths)))

    def test_ahead(self):
        """With what the function is ahead by as a control nothing strays; taken once it is best."""
        stream = made(228)
        for walk in walks(229, 6) + [turn(), ring_walk(5), lean()]:
            worths = function(stream, walk.places)
            step = ahead(walk, worths)
            self.assertEqual(best_error(walk, worths, [step]), Ratio(0))
            self.assertEqual(controlled(walk, worths, [step], [1]), Ratio(0))
            for controls in ([function(stream, walk.places), step], [step, [1] * walk.places, step]):
                self.assertEqual(self.assert_best(stream, walk, worths, controls)[1], Ratio(0))

    def test_walks_that_stray_little(self):
        """The table of a ring is flat, and others are nearly so: there all numbers are best, or many."""
        stream = made(230)
        for walk in (ring_walk(2), turn(), ring_walk(5)):
            found, least = self.assert_best(stream, walk, function(stream, walk.places), [function(stream, walk.places)] * 2)
            self.assertEqual(least, Ratio(0))
        met = 0
        while met < 10:
            walk = any_walk(stream, 4)
            if is_whole(walk):
                met += 1
                self.assert_best(stream, walk, function(stream, 4), [function(stream, 4) for _ in range(3)])

    def test_long_numbers(self):
        stream = made(231)
        for places in (2, 4, 6):
            walk = six_digits(stream, places)
            some = [[Ratio(stream.randint(1, 999999), stream.randint(1, 999999)) for _ in range(places)] for _ in range(4)]
            found, _ = self.assert_best(stream, walk, some[0], some[1:])
            self.assertLess(digits(found), 2000)

    def test_numbers_are_short(self):
        """Of controls that are made of one another those count with which the numbers are short."""
        long = Ratio(10 ** 2500 + 1, 3 ** 4000)
        plain_one, worths = [0, 4, 1], [5, Ratio(1, 3), 2]
        walk = walks(232, 3)[-1]
        for controls in ([[long * number for number in plain_one], plain_one], [plain_one, [long * number for number in plain_one]]):
            found, _ = self.assert_best(made(233), walk, worths, controls)
            self.assertLess(digits(found), 100)

    def test_known(self):
        self.assertEqual(control(lean(), [0, 4]), [Ratio(-2), Ratio(1)])
        self.assertEqual(controlled(lean(), [0, 1], [[0, 4]], [0]), Ratio(10, 27))
        self.assertEqual(best_numbers(lean(), [0, 1], [[0, 4]]), [Ratio(1, 3)])
        self.assertEqual(best_error(lean(), [0, 1], [[0, 4], [1, 1]]), Ratio(0))


class TestRefusals(unittest.TestCase):
    def test_refusals(self):
        worths, controls = [Ratio(1, 2), 3, 4], [[1, 2, 3], [0, HALF, 5]]
        wrong_worths = not_lists() + lists() + [
            [1, 2], [1, 2, 3, 4], [1, 2, True], [1, 2, None], [1, "2", 3], "123", [1, 2, [3]], {0: 1, 1: 2, 2: 3},
        ]
        wrong_controls = not_lists() + lists() + [
            [worths] * 4, [[1, 2]], [[1, 2, 3, 4]], [worths, [1, 2]], [worths, [1, 2, True]], [worths, None], [worths, "123"],
            worths, [worths, [1, 2, Own()]], {0: worths}, [worths, {0: 1, 1: 2, 2: 3}], [worths, turn()],
        ]
        wrong_numbers = not_lists() + lists()[:5] + [
            [1], [1, 2, 3], [1, True], [1, None], [1, "2"], "12", {0: 1, 1: 2}, [1, [2]], [], [Own(), 1], [[1, 2]],
        ]
        first = [("walk", turn(), InvalidWalk, NOT_WALKS), ("function", worths, InvalidFunction, wrong_worths)]
        second = first + [("controls", controls, InvalidControls, wrong_controls)]
        third = second + [("numbers", [1, Ratio(2, 3)], InvalidNumbers, wrong_numbers)]
        for asked, told in [(control, first), (best_numbers, second), (best_error, second), (controlled, third)]:
            assert_refusals(self, asked, told)
            assert_same_by_name(self, asked, told)
            passed = [row[1] for row in told]
            if asked in (control, best_numbers):
                assert_pure(self, asked, *passed)
            kept = tupled(passed[1:])
            asked(*passed)
            self.assertEqual(tupled(passed[1:]), kept)

    def test_as_many_numbers_as_controls(self):
        for many in (1, 2, 3):
            controls = [[1, 2]] * many
            for numbers in ([1] * (many - 1), [1] * (many + 1), [1] * 5):
                assert_refused(self, InvalidNumbers, numbers, lambda: controlled(lean(), [1, 2], controls, numbers))
            self.assertEqual(controlled(lean(), [1, 1], controls, (0,) * many), Ratio(0))
        none = []
        assert_refused(self, InvalidControls, none, lambda: controlled(lean(), [1, 2], none, []))

    def test_not_whole(self):
        """Behind all that is not valid; of `control` never."""
        stays = Walk([[1, 0], [0, 1]], [HALF, HALF])
        for walk in (apart(), stays):
            with self.assertRaises(NotWhole):
                controlled(walk, [0, 1], [[0, 4]], [1])
            for asked in (best_numbers, best_error):
                with self.assertRaises(NotWhole):
                    asked(walk, [0, 1], [[0, 4]])
            self.assertEqual(control(walk, [1, 2]), [Ratio(0)] * 2)
            for passed, error_class in [(([0], [[1, 2]]), InvalidFunction), (([0, 1], []), InvalidControls)]:
                for asked in (best_numbers, best_error):
                    with self.assertRaises(error_class):
                        asked(walk, *passed)
            with self.assertRaises(InvalidNumbers):
                controlled(walk, [0, 1], [[0, 4]], [])


if __name__ == "__main__":
    unittest.main()
