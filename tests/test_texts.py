"""Written forms of values of each sort."""

import unittest

from kinds import Own, apart, lean, lists, not_lists, plain_kinds, retold, samples
from refusals import assert_refusals, assert_refused, assert_same_by_name, tupled
from surerwalks.errors import InvalidSort, InvalidValue
from surerwalks.ratios import Ratio
from surerwalks.texts import is_of_sort, sorts, written
from surerwalks.walks import Walk

HALF = Ratio(1, 2)
SORTS = ["numbers", "function", "table", "walk", "proposal", "guess", "grid"]
WRONG_SORTS = not_lists() + lists() + ["Numbers", "number", "", "walk ", " walk", "walks", "row", ["walk"], ("walk",), "part", "shares"]
WRONG = {
    "numbers": [[0] * 61, [True], [1, None], [1, "2"], [[1]], [1, Own()], {0: 1}, "1", [1, lean()], [(1, 1)]],
    "function": [[], [1], [0] * 7, [1, True], [1, "2"], "12", {0: 1, 1: 2}, [1, [2]], [Own(), 1]],
    "table": [[], [1], [[1, 2], [3]], [[1, 2]], [[0] * 13] * 13, [[1, True], [0, 0]], [[1, None], [0, 0]], [[]], [[1, 2], "34"],
              [[1, 2], {0: 1, 1: 2}], {0: [1]}, lean()],
    "walk": [lean().rows(), (lean().rows(), lean().shares()), [lean()], (lean(),), lean().shares(), Walk],
    "proposal": [[[1]], [[1, 0], [1, 1]], [[1, 0], [2, -1]], [[1, 0]], [[1, 0], [0, True]], [[1] + [0] * 6] * 7, [[1, 0], [0]],
                 [[1, 0], "01"], lean(), [1, 0]],
    "guess": [[], [(1, 2)], [[1, 1]], [(HALF, 1), (HALF, 1)], [(HALF, 2), (HALF, 0)], [(HALF, 0), (HALF, 1)], [(True, 1)], (1, 1),
              [(Ratio(1, 5), Ratio(k, 2)) for k in range(5)], [(1, 1), (0, 2)], [(HALF, -1), (HALF, 3)], [(1, 1, 1)], [Own()]],
    "grid": [[[1, 2]], [[1], [2]], [[1] * 3] * 3, [[1, 0], [1, 1]], [[1, -1], [1, 1]], [[1, 1], [1]], [[1, 1, 1, 1]] * 2,
             [[1, 1]] * 4, [[1, True], [1, 1]], [[1, 1], "11"], [[], []], lean(), [[1, 1], [1, Own()]]],
}


def told_form(sort, value):
    """The lines, told another way."""
    words = {"numbers": [], "function": [], "guess": []}.get(sort)
    if sort == "walk":
        rows, first = value.rows() + [value.shares()], f"walk {value.places}"
        heads = ["row"] * value.places + ["shares"]
    elif words is None:
        first = f"{sort} {len(value)}" + (f" {len(value[0])}" if sort == "grid" else "")
        rows, heads = value, ["row"] * len(value)
    elif sort == "guess":
        first, rows, heads = "guess", value, ["part"] * len(value)
    else:
        return " ".join([sort, *map(str, value)]) + "\n"
    return "\n".join([first] + [f"{head} {' '.join(map(str, row))}" for head, row in zip(heads, rows)]) + "\n"


class TestTexts(unittest.TestCase):
    def test_sorts(self):
        self.assertEqual(sorts(), SORTS)
        sorts().append("more")
        self.assertEqual(sorts(), SORTS)
        self.assertEqual(list(samples()), SORTS)

    def test_written(self):
        for sort, values in samples().items():
            for value in values:
                told = told_form(sort, value)
                for same in (value, retold(value)):
                    self.assertIs(is_of_sort(sort, same), True)
                    self.assertEqual(written(sort, same), told)
                # Tuples for lists, but not lists for tuples.
                if sort == "guess":
                    self.assertEqual(written(sort, tuple(value)), told)
                elif sort != "walk":
                    self.assertEqual(written(sort, tupled(value)), told)
                    self.assertIs(is_of_sort(sort, tupled(value)), True)

    def test_known(self):
        self.assertEqual(written("numbers", []), "numbers\n")
        self.assertEqual(written("numbers", (1, Ratio(-3, 2), Ratio(4, 2), 0)), "numbers 1 -3/2 2 0\n")
        self.assertEqual(written("function", [Ratio(6, -4), -5]), "function -3/2 -5\n")
        self.assertEqual(written("table", [[0]]), "table 1\nrow 0\n")
        self.assertEqual(written("walk", apart()), "walk 2\nrow 1 0\nrow 0 1\nshares 1/3 2/3\n")
        self.assertEqual(written("guess", [(HALF, 0), (HALF, 2)]), "guess\npart 1/2 0\npart 1/2 2\n")
        self.assertEqual(written("grid", ((1, 2), (3, 1), (HALF, 1))), "grid 3 2\nrow 1 2\nrow 3 1\nrow 1/2 1\n")

    def test_wrong_values(self):
        for sort, wrong in WRONG.items():
            others = plain_kinds() + [0, 1, Ratio(1, 2)]
            for value in wrong + others + ([lean(), apart()] if sort != "walk" else []):
                self.assertIs(is_of_sort(sort, value), False)
                assert_refused(self, InvalidValue, value, lambda: written(sort, value))

    def test_sorts_that_share_values(self):
        told = [
            (((1, 0), (0, 1)), ["table", "proposal"]),
            (((1, 1), (1, 1)), ["table", "grid"]),
            (((HALF, HALF), (HALF, HALF)), ["table", "proposal", "grid"]),
            (((1, 1, 1), (1, 1, 1)), ["grid"]),
            ((1, 2), ["numbers", "function"]),
            ((1,), ["numbers"]),
            ((), ["numbers"]),
            (((1, 1),), ["guess"]),
            (((1,),), ["table"]),
        ]
        for value, found in told:
            for same in (value, list(value)):
                self.assertEqual([sort for sort in SORTS if is_of_sort(sort, same)], found)
        self.assertEqual([sort for sort in SORTS if is_of_sort(sort, lean())], ["walk"])

    def test_refusals(self):
        for value in WRONG_SORTS:
            for asked in (is_of_sort, written):
                assert_refused(self, InvalidSort, value, lambda: asked(value, [1, 2]))
        told = [("sort", "function", InvalidSort, WRONG_SORTS), ("value", [1, HALF], InvalidValue, WRONG["function"])]
        assert_refusals(self, written, told)
        assert_same_by_name(self, written, told)
        assert_same_by_name(self, is_of_sort, told)
        kept = [1, HALF]
        written("function", kept)
        self.assertEqual(kept, [1, HALF])


if __name__ == "__main__":
    unittest.main()
