"""The whole program: its interface, what it promises over all, and that no call changes what it is handed."""

import copy
import importlib
import inspect
import unittest

from desks import filled
from equations import plain, plains
from kinds import any_walk, backed, chances, drawn, even_pairs, function, lean, like_pairs, made, proposals, ring_walk, stayed, turn
from kinds import walks, whole_walk
from refusals import spoil
from surerwalks.controls import best_error, control, controlled
from surerwalks.errors import NeverMeet
from surerwalks.flows import room_of_ring, with_ring
from surerwalks.forms import is_never_below, worth
from surerwalks.guesses import guessed_table
from surerwalks.lots import half_back, lot_table, mixed_table
from surerwalks.meets import meeting_means
from surerwalks.orders import difference, is_surer, is_surer_paper, is_worse_paper, surer_squares, worse_function
from surerwalks.parts import by_lot, given_means, grid_shares, scan, seen
from surerwalks.ratios import Ratio
from surerwalks.rules import greatest_rule, half_rule, walk_by
from surerwalks.strays import after_table, error, error_table, mean, spread_table
from surerwalks.tours import tour_means
from surerwalks.turns import thin_table, turn_table
from surerwalks.walks import Walk, backwards, is_whole, lazy, power, renamed, then, walk_of

HALF, THIRD = Ratio(1, 2), Ratio(1, 3)
INTERFACE = """
basics: is_integer(value) is_count(value)
ratios: is_number(value) Ratio(top,bottom)
tables: product(table,other) turned(table) inverse(table) determinant(table)
forms: worth(form,row) is_never_below(form) squares(form) are_squares(form,value) below(form) is_mild(form) unmild(form)
walks: Walk(rows,shares) walk_of(rows) is_whole(walk) closed_lot(walk) backwards(walk) is_alike_backwards(walk) then(walk,other)
walks: mixed(walk,other,part) lazy(walk,part) power(walk,many) renamed(walk,order)
flows: flow(walk) walk_of_flow(table) room_of_ring(walk,ring) with_ring(walk,ring,much)
strays: mean(walk,function) spread(walk,function) spread_table(walk) ahead(walk,function) error_table(walk) error(walk,function)
strays: after_table(walk,start,many) after(walk,start,many,function)
tours: tour_means(walk,place,function)
meets: meets_surely(walk,start,way) meeting_means(walk,start,function,way)
orders: difference(walk,other) step_form(walk,other) is_surer(walk,other) surer_squares(walk,other) is_surer_paper(walk,other,value)
orders: worse_function(walk,other) is_worse_paper(walk,other,value) is_cheaper(walk,cost,other,other_cost)
risings: is_surer_rising(walk,other) worse_rising(walk,other) is_worse_rising_paper(walk,other,value) is_surer_after(walk,other,many)
risings: worse_after(walk,other,many)
rules: is_rule(proposal,weights,value) greatest_rule(proposal,weights) half_rule(proposal,weights) walk_by(proposal,weights,taken)
rules: rule_of(proposal,weights,walk)
singles: single(chances,weights) roots(chances,weights) fresh(weights) among_others(weights)
lots: half_back(walk) lot_table(walk,other,part) mixed_table(walk,other,part)
turns: turn_table(walk,other) thin_table(walk,many) lazy_table(walk,part) ring_table(walk,ring,much)
parts: grid_shares(grid) redraw(grid,which) scan(grid) by_lot(grid) seen(grid) given_means(grid,function) raw_table(grid) given_table(grid)
controls: control(walk,function) controlled(walk,function,controls,numbers) best_numbers(walk,function,controls)
controls: best_error(walk,function,controls)
spreads: is_less_spread(guess,other) splitting(guess,other) is_splitting(guess,other,value) hinge(guess,other) is_hinge(guess,other,value)
guesses: guessed_table(proposal,weights,guesses)
texts: sorts() is_of_sort(sort,value) written(sort,value)
readers: read(text)
claims: words() is_claim(value) is_true(claim) contrary(claim) paper_of(claim) is_paper_of(claim,value)
commands: is_name(value) is_command(value) is_deed(value)
desk: Desk() Trial(desk) tried(desk,action)
"""
METHODS = {
    "Ratio": "top bottom sign is_whole __add__ __radd__ __sub__ __rsub__ __mul__ __rmul__ __neg__ over(other) size() is_below(other) "
             "is_at_most(other) __eq__ total(numbers) __str__ __repr__",
    "Walk": "places rows() shares() __eq__",
    "Desk": "names labels __len__ __getitem__ __contains__ claim_of(label) do(command) __call__(command) do_all(commands) attempt(commands) "
            "attach(label,paper) fits(label) lines() copy() again(lines)",
    "Trial": "__enter__ __exit__",
}
GUESSES = [(HALF, HALF), (HALF, Ratio(3, 2))], [(THIRD, 0), (Ratio(2, 3), Ratio(3, 2))]
# What a call of each parameter's name is handed; of the same sort for all functions, but where another is told.
HANDED = {
    "table": [[1, 2], [3, HALF]], "form": [[2, 1], [1, 2]], "row": [1, -HALF], "rows": [[HALF, HALF], [1, 0]], "walk": lean(), "order": [1, 0],
    "part": THIRD, "many": 3, "function": [HALF, 3], "start": [0, 1], "place": 1, "way": "near", "cost": 1, "other_cost": HALF,
    "proposal": [[HALF, HALF], [1, 0]], "weights": [1, HALF], "taken": [[0, 0], [0, 0]], "chances": [THIRD, 1 - THIRD],
    "grid": [[1, 2, HALF], [3, 1, 1]], "which": 1, "controls": [[0, 4], [1, 1]], "numbers": [1, HALF], "guess": GUESSES[0],
    "guesses": [GUESSES[0], GUESSES[1]], "sort": "function", "text": "function 1 2\n", "claim": ("surer", drawn(lean()), lean()),
    "value": [1, HALF], "ring": [0, 1, 2], "much": Ratio(-1, 9), "action": lambda held: held.do_all("drop w", "names"), "top": 1, "bottom": 2,
    "shares": [THIRD, Ratio(2, 3)],
}
OTHERS = {
    "product": {"other": [[0, 1], [1, 1]]}, "room_of_ring": {"walk": turn()}, "with_ring": {"walk": turn()}, "ring_table": {"walk": turn()},
    "walk_of_flow": {"table": [[Ratio(1, 6), Ratio(1, 6)], [Ratio(1, 6), HALF]]}, "unmild": {"form": [[0, -1], [-1, 0]]},
    "below": {"form": [[1, 2], [2, 1]]}, "surer_squares": {"walk": drawn(lean()), "other": lean()}, "is_surer_paper": {"value": [(1, [1, -1])]},
    "splitting": {"other": GUESSES[1]}, "is_less_spread": {"other": GUESSES[1]}, "is_splitting": {"other": GUESSES[1], "value": [[1, 0], [0, 1]]},
    "hinge": {"guess": GUESSES[1], "other": GUESSES[0]}, "is_hinge": {"other": GUESSES[1], "value": 1}, "is_deed": {"value": "turn w"},
    "is_claim": {"value": ("whole", lean())}, "is_command": {"value": "turn w"}, "is_name": {"value": "w"}, "is_rule": {"value": [[0, 0], [0, 0]]},
    "are_squares": {"value": [(1, [1, 1]), (1, [1, 0])]}, "walk_of": {"rows": [[HALF, HALF], [Ratio(1, 4), Ratio(3, 4)]]},
    "Walk": {"rows": [[HALF, HALF], [Ratio(1, 4), Ratio(3, 4)]]}, "closed_lot": {"walk": stayed(lean(), 1)},
    "roots": {"weights": [3, 1]}, "rule_of": {"walk": walk_by([[HALF, HALF], [1, 0]], [1, HALF], [[0, 0], [0, 0]])},
    "is_worse_paper": {"value": [0, 1]}, "worse_rising": {"walk": stayed(lean(), HALF), "other": lean()}, "is_of_sort": {"value": (1, 2)},
    "worse_after": {"walk": stayed(lean(), HALF), "other": lean()}, "worse_function": {"walk": stayed(lean(), HALF), "other": lean()},
}


def listed():
    """Each name of the interface, with its module and its parameters."""
    for line in INTERFACE.strip().split("\n"):
        module, told = line.split(": ")
        for part in told.split(" "):
            name, parameters = part[:-1].split("(")
            yield module, name, [one for one in parameters.split(",") if one]


def handed(name, parameters):
    told = {"other": drawn(lean()), "desk": filled(), **HANDED, **OTHERS.get(name, {})}
    return [told[parameter] for parameter in parameters]


class TestInterface(unittest.TestCase):
    def test_names(self):
        for module, name, parameters in listed():
            found = getattr(importlib.import_module("surerwalks." + module), name)
            self.assertEqual(found.__module__, "surerwalks." + module)
            asked = found.__init__ if inspect.isclass(found) else found
            names = list(inspect.signature(asked).parameters)
            self.assertEqual([one for one in names if one != "self"], parameters, name)

    def test_methods(self):
        """Defined in the class itself, with the parameters that are told."""
        for module, name, _ in listed():
            for told in METHODS.get(name, "").split(" ") if name in METHODS else []:
                method, _, parameters = told.rstrip(")").partition("(")
                found = getattr(importlib.import_module("surerwalks." + module), name).__dict__[method]
                if "(" in told:
                    names = list(inspect.signature(getattr(found, "__func__", found)).parameters)
                    self.assertEqual(names[1:], [one for one in parameters.split(",") if one], told)
                self.assertEqual(isinstance(found, property), "(" not in told and not method.startswith("_"))
        for name in ("total", "again"):
            self.assertEqual(len([one for one in METHODS.values() if f" {name}(" in one]), 1)

    def test_calls(self):
        """What is handed in is not changed, what is told is new, a call twice tells the same, by position and by name."""
        for module, name, parameters in listed():
            if name in ("Desk", "Trial"):
                continue
            asked = getattr(importlib.import_module("surerwalks." + module), name)
            passed = handed(name, parameters)
            kept = copy.deepcopy([part for part in passed if not callable(part)])
            first = asked(*passed)
            self.assertIsNotNone(first, name)
            told = copy.deepcopy(first)
            self.assertEqual(asked(**dict(zip(parameters, passed))), told, name)
            spoil(first)
            self.assertEqual(asked(*passed), told, name)
            for one, two in zip([part for part in passed if not callable(part)], kept):
                if name != "tried":
                    self.assertEqual(one, two, name)

    def test_walks_never_change(self):
        walk = lean()
        for told in (walk.rows(), walk.shares()):
            spoil(told)
        self.assertEqual(walk, lean())
        rows, shares = [[HALF, HALF], [Ratio(1, 4), Ratio(3, 4)]], [THIRD, 1 - THIRD]
        walk = Walk(rows, shares)
        spoil(rows)
        spoil(shares)
        self.assertEqual(walk, lean())


class TestPromises(unittest.TestCase):
    """What the document guarantees, for walks made by chance."""

    def test_one_table(self):
        """For all functions and all starts: so many steps stray as the table tells, but for what goes like 1 over them."""
        stream = made(801)
        for walk in walks(802, 4)[::2] + [turn(), ring_walk(4)]:
            rows = [[float(plain(number)) for number in row] for row in walk.rows()]
            places = range(walk.places)
            for _ in range(2):
                worths = function(stream, walk.places)
                middle = plain(mean(walk, worths))
                offs, many = [float(number - middle) for number in plains(worths)], 4000
                first, second = [0.0 for _ in places], [0.0 for _ in places]
                for _ in range(many):
                    one = [sum(rows[x][y] * first[y] for y in places) for x in places]
                    two = [sum(rows[x][y] * second[y] for y in places) for x in places]
                    second = [offs[x] ** 2 + 2 * offs[x] * one[x] + two[x] for x in places]
                    first = [offs[x] + one[x] for x in places]
                told = float(plain(error(walk, worths)))
                for place in places:
                    self.assertAlmostEqual(second[place] / many, told, delta=0.03 * (1 + told))

    def test_surer_or_not(self):
        stream = made(803)
        met = {True: 0, False: 0}
        for one, two in like_pairs(804, 5) + even_pairs(805, 5):
            for walk, other in ((one, two), (two, one)):
                surer = is_surer(walk, other)
                met[surer] += 1
                shown, worse = surer_squares(walk, other), worse_function(walk, other)
                self.assertEqual((shown is not None, worse is None), (surer, surer))
                self.assertIs(is_never_below(difference(walk, other)), surer)
                if surer:
                    self.assertIs(is_surer_paper(walk, other, shown), True)
                    for _ in range(3):
                        worths = function(stream, walk.places)
                        self.assertTrue(error(walk, worths).is_at_most(error(other, worths)))
                        self.assertIs(is_worse_paper(walk, other, worths), False)
                else:
                    self.assertTrue(error(other, worse).is_below(error(walk, worse)))
        self.assertGreater(min(met.values()), 20)

    def test_rules(self):
        stream = made(806)
        met = 0
        for rows, numbers in proposals(807, 5, 5):
            greatest = greatest_rule(rows, numbers)
            part = Ratio(stream.randint(1, 8), 9)
            for taken in (half_rule(rows, numbers), [[part * number for number in row] for row in greatest]):
                best, walk = walk_by(rows, numbers, greatest), walk_by(rows, numbers, taken)
                if is_whole(walk):
                    met += 1
                    self.assertIs(is_surer(best, walk), True)
        self.assertGreater(met, 10)

    def test_like_means(self):
        """In turn, by lot, backwards, with rings, thinned, lazy, renamed: the shares stay, and so does the mean."""
        stream = made(808)
        for walk in walks(809, 5):
            worths, places = function(stream, walk.places), range(walk.places)
            middle = mean(walk, worths)
            back = backwards(walk)
            others = [back, half_back(walk), then(walk, back), power(walk, 3), lazy(walk, THIRD), drawn(walk)]
            if walk.places > 2:
                ring = list(places)[:3]
                others += [with_ring(walk, ring, much) for much in room_of_ring(walk, ring)]
            for other in others:
                self.assertEqual(other.shares(), walk.shares())
                self.assertEqual(mean(other, worths), middle)
            order = list(places)[::-1]
            self.assertEqual(mean(renamed(walk, order), worths[::-1]), middle)
            self.assertEqual(mean(walk, [a - 3 * b for a, b in zip(worths, control(walk, [5 * number * number for number in worths]))]), middle)
            for place in places:
                self.assertEqual(tour_means(walk, place, worths)[0] * walk.shares()[place], middle)
                flat = [number - middle for number in worths]
                self.assertEqual(tour_means(walk, place, flat)[1] * walk.shares()[place], error(walk, worths))
            for way in ("apart", "near"):
                try:
                    self.assertEqual(meeting_means(walk, chances(stream, walk.places), worths, way)[0], middle)
                except NeverMeet:
                    continue

    def test_like_tables(self):
        for walk in walks(810, 4):
            table, places = error_table(walk), walk.places
            self.assertEqual(error_table(backwards(walk)), table)
            self.assertEqual(lot_table(walk, walk, THIRD), table)
            self.assertEqual(mixed_table(walk, backwards(walk), THIRD), table)
            self.assertEqual(thin_table(walk, 1), table)
            if is_whole(power(walk, 2)):
                self.assertEqual(turn_table(walk, walk), table)
            self.assertEqual(error_table(drawn(walk)), spread_table(walk))
            self.assertEqual(after_table(walk, walk.shares(), 1), spread_table(walk))
            # A function of one worth never strays, whatever is added.
            self.assertTrue(all(worth(told, [7] * places).sign == 0 for told in (table, spread_table(walk), thin_table(lazy(walk, HALF), 2))))

    def test_parts_and_controls(self):
        stream = made(811)
        for grid in ([[1, 2], [3, 4]], [[1, 2, 3], [2, 1, 5]], [[1, 1], [2, 3], [5, 1]]):
            worths = function(stream, len(grid))
            shares = grid_shares(grid)
            columns = [Ratio.total(shares[at::len(grid[0])]) for at in range(len(grid[0]))]
            means = given_means(grid, worths)
            self.assertEqual(Ratio.total([a * b for a, b in zip(columns, means)]), mean(seen(grid), worths))
            by_pairs = [number for number in worths for _ in grid[0]]
            for walk in (scan(grid), by_lot(grid)):
                self.assertEqual(mean(walk, by_pairs), mean(seen(grid), worths))
                self.assertTrue(best_error(walk, by_pairs, [by_pairs]).is_at_most(error(walk, by_pairs)))
                self.assertEqual(controlled(walk, by_pairs, [by_pairs], [0]), error(walk, by_pairs))

    def test_guessed_weights(self):
        """With guesses that are never wrong it is the walk by the greatest rule."""
        for rows, numbers in proposals(812, 4, 4):
            walk = walk_by(rows, numbers, greatest_rule(rows, numbers))
            if is_whole(walk):
                self.assertEqual(guessed_table(rows, numbers, [[(1, 1)]] * len(rows)), error_table(walk))

    def test_one_list_of_shares(self):
        stream = made(813)
        for places in (2, 3, 4, 5, 6):
            walk = whole_walk(stream, places)
            self.assertEqual(walk_of(walk.rows()), walk)
            self.assertEqual(backed(backed(walk)), walk)
            other = any_walk(stream, places)
            self.assertEqual(is_whole(other), is_whole(backwards(other)))


if __name__ == "__main__":
    unittest.main()
