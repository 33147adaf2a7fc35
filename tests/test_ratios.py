"""INTEGERS, COUNTS, NUMBERS and Ratios."""

import operator
import unittest
from fractions import Fraction

from kinds import Own, lean, made, not_integers, not_numbers, numbers, plain_kinds
from refusals import assert_refused
from surerwalks.basics import is_count, is_integer
from surerwalks.errors import DividedByZero, InvalidNumber
from surerwalks.ratios import Ratio, is_number

HUGE = 7 ** 700


def tops_and_bottoms():
    stream = made(1)
    told = [(stream.randint(-30, 30), stream.choice([-1, 1]) * stream.randint(1, 30)) for _ in range(60)]
    return told + [(0, -5), (HUGE, HUGE * 6), (HUGE * 14, -HUGE * 21), (-HUGE, 1), (HUGE + 1, HUGE), (3, -HUGE)]


def fraction(ratio):
    return Fraction(ratio.top, ratio.bottom)


class TestKinds(unittest.TestCase):
    def test_integers_and_counts(self):
        for value in (0, 1, 5, HUGE):
            self.assertIs(is_integer(value), True)
            self.assertIs(is_count(value), True)
        for value in (-1, -HUGE):
            self.assertIs(is_integer(value), True)
            self.assertIs(is_count(value), False)
        for value in not_integers():
            self.assertIs(is_integer(value), False)
            self.assertIs(is_count(value), False)

    def test_numbers(self):
        for value in numbers() + [HUGE, Ratio(HUGE, 3)]:
            self.assertIs(is_number(value), True)
        for value in not_numbers():
            self.assertIs(is_number(value), False)

    def test_by_name(self):
        self.assertIs(is_integer(value=1), True)
        self.assertIs(is_count(value=-1), False)
        self.assertIs(is_number(value=Ratio(1, 3)), True)


class TestRatio(unittest.TestCase):
    def test_lowest_terms(self):
        for top, bottom in tops_and_bottoms():
            ratio, told = Ratio(top, bottom), Fraction(top, bottom)
            self.assertEqual((ratio.top, ratio.bottom), (told.numerator, told.denominator))
            self.assertIs(type(ratio.top), int)
            self.assertIs(type(ratio.bottom), int)
            self.assertEqual(ratio.sign, (told > 0) - (told < 0))
            self.assertIs(type(ratio.sign), int)
            self.assertIs(ratio.is_whole, told.denominator == 1)

    def test_made_by_name(self):
        self.assertEqual(Ratio(top=4, bottom=-6), Ratio(-2, 3))
        self.assertEqual(Ratio(5), Ratio(5, 1))
        self.assertEqual(Ratio(bottom=2, top=1), Ratio(1, 2))

    def test_made_of_wrong_values(self):
        for value in not_integers():
            assert_refused(self, InvalidNumber, value, lambda: Ratio(value))
            assert_refused(self, InvalidNumber, value, lambda: Ratio(value, 0))
            assert_refused(self, InvalidNumber, value, lambda: Ratio(1, value))
            assert_refused(self, InvalidNumber, value, lambda: Ratio(top=2, bottom=value))
        with self.assertRaises(InvalidNumber) as caught:
            Ratio(3, 0)
        self.assertEqual((caught.exception.value, type(caught.exception.value)), (0, int))

    def test_operators(self):
        signs = [operator.add, operator.sub, operator.mul]
        some = [Ratio(top, bottom) for top, bottom in tops_and_bottoms()][::4] + [Ratio(HUGE, 3)]
        for one in some:
            for other in some + [0, 1, -3, HUGE]:
                worth = other if isinstance(other, int) else fraction(other)
                for sign in signs:
                    found = sign(one, other)
                    self.assertIs(type(found), Ratio)
                    self.assertEqual(fraction(found), sign(fraction(one), worth))
                    if isinstance(other, int):
                        turned = sign(other, one)
                        self.assertIs(type(turned), Ratio)
                        self.assertEqual(fraction(turned), sign(worth, fraction(one)))
                self.assertIs(one.is_below(other), fraction(one) < worth)
                self.assertIs(one.is_at_most(other=other), fraction(one) <= worth)
                if worth != 0:
                    self.assertEqual(fraction(one.over(other)), fraction(one) / worth)
            self.assertEqual(fraction(-one), -fraction(one))
            self.assertEqual(fraction(one.size()), abs(fraction(one)))
            self.assertIs(type(one.size()), Ratio)

    def test_nothing_changes(self):
        one, other = Ratio(1, 2), Ratio(2, 3)
        kept = one
        one += other
        self.assertEqual((kept, one, other), (Ratio(1, 2), Ratio(7, 6), Ratio(2, 3)))

    def test_wrong_values_on_the_right(self):
        half = Ratio(1, 2)
        for value in not_numbers():
            assert_refused(self, InvalidNumber, value, lambda: half + value)
            assert_refused(self, InvalidNumber, value, lambda: half - value)
            assert_refused(self, InvalidNumber, value, lambda: half * value)
            for asked in (half.over, half.is_below, half.is_at_most):
                assert_refused(self, InvalidNumber, value, lambda: asked(value))
                assert_refused(self, InvalidNumber, value, lambda: asked(other=value))

    def test_divided_by_zero(self):
        for value in (0, Ratio(0), Ratio(0, -3)):
            with self.assertRaises(DividedByZero):
                Ratio(1, 2).over(value)
            with self.assertRaises(DividedByZero):
                Ratio(0).over(other=value)

    def test_equal(self):
        self.assertTrue(Ratio(1, 2) == Ratio(-2, -4))
        self.assertFalse(Ratio(1, 2) != Ratio(2, 4))
        self.assertFalse(Ratio(1, 2) == Ratio(1, 3))
        self.assertFalse(Ratio(1, 2) == Ratio(-1, 2))
        self.assertTrue(Ratio(1, 2) != Ratio(3, 2))
        for value in [0, 1, True, False, None, "1", [1], (1, 1), Fraction(1), lean(), Own(), object()]:
            for one in (Ratio(1), Ratio(0)):
                self.assertIs(one == value, False)
                self.assertIs(one != value, True)
                if not isinstance(value, Own):
                    self.assertIs(value == one, False)

    def test_total(self):
        self.assertEqual(Ratio.total([]), Ratio(0))
        self.assertEqual(Ratio.total(()), Ratio(0))
        self.assertEqual(Ratio.total([1, Ratio(1, 2), -3]), Ratio(-3, 2))
        self.assertEqual(Ratio.total(numbers=(Ratio(1, 6), Ratio(1, 3), Ratio(HUGE, 2))), Ratio(HUGE + 1, 2))
        told = tops_and_bottoms()
        found = Ratio.total([Ratio(top, bottom) for top, bottom in told])
        self.assertEqual(fraction(found), sum(Fraction(top, bottom) for top, bottom in told))
        self.assertIs(type(Ratio.total([1])), Ratio)

    def test_total_of_wrong_values(self):
        for value in plain_kinds() + numbers():
            assert_refused(self, InvalidNumber, value, lambda: Ratio.total(value))
        for value in not_numbers():
            assert_refused(self, InvalidNumber, value, lambda: Ratio.total([1, value, None]))
            assert_refused(self, InvalidNumber, value, lambda: Ratio.total(numbers=(value,)))

    def test_texts(self):
        for top, bottom, told, shown in [
            (3, 2, "3/2", "Ratio(3, 2)"), (-3, 6, "-1/2", "Ratio(-1, 2)"), (4, 2, "2", "Ratio(2, 1)"),
            (0, 7, "0", "Ratio(0, 1)"), (5, -1, "-5", "Ratio(-5, 1)"),
        ]:
            self.assertEqual(str(Ratio(top, bottom)), told)
            self.assertEqual(repr(Ratio(top, bottom)), shown)
            self.assertEqual(eval(shown), Ratio(top, bottom))
        self.assertEqual(str(Ratio(HUGE, 2)), f"{HUGE}/2")

    def test_methods_stand_in_the_class(self):
        for name in ["top", "bottom", "sign", "is_whole", "over", "size", "is_below", "is_at_most", "total"]:
            self.assertIn(name, vars(Ratio))


if __name__ == "__main__":
    unittest.main()
