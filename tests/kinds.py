"""Values of all kinds, and walks, forms and numbers to try things on."""

import itertools
import random

from surerwalks.ratios import Ratio
from surerwalks.walks import Walk, walk_of


class Own:
    """An object of another class; whoever asks it anything fails."""

    def asked(self, *told):
        raise AssertionError("an object that was passed was asked")

    __eq__ = __len__ = __iter__ = __bool__ = __add__ = __lt__ = __getitem__ = asked
    __hash__ = None


def plain_kinds():
    """Values that are neither NUMBERS nor lists nor Walks."""
    return [True, False, None, "", "a", "1", "1/2", b"", b"1", {}, {0: 1}, {1, 2}, Own(), object(), Ratio, Walk, len]


def numbers():
    return [0, 1, 2, -1, 10 ** 29, Ratio(1, 2), Ratio(0), Ratio(1), Ratio(-7, 3)]


def lists():
    """Lists that are neither tables nor lists of two numbers or more."""
    return [[], (), [1], (1,), [[]], [[1, 2], [3, 4], 5], [True, False], ["a", "b"], [None, None], [[True]],
            [Own(), Own()], [[Own()]], [{}, {}], [b"a"], [Ratio(1, 2), True], [[Ratio(1, 2), False], [1, 0]]]


def not_numbers():
    return plain_kinds() + lists() + [lean()]


def not_integers():
    return not_numbers() + [Ratio(1), Ratio(0), Ratio(1, 2)]


def not_lists():
    return plain_kinds() + numbers() + [lean()]


def lean():
    return walk_of([[Ratio(1, 2), Ratio(1, 2)], [Ratio(1, 4), Ratio(3, 4)]])


def turn():
    return walk_of([[0, 1, 0], [0, 0, 1], [1, 0, 0]])


def halves():
    half = Ratio(1, 2)
    return Walk([[half, half], [half, half]], [half, half])


def apart():
    return Walk([[1, 0], [0, 1]], [Ratio(1, 3), Ratio(2, 3)])


def made(seed):
    """A stream of numbers that is the same each time."""
    return random.Random(seed)


def ratio(stream, size=9):
    return Ratio(stream.randint(-size, size), stream.randint(1, size))


def chances(stream, places, size=5, least=0):
    """Chances that add up to 1."""
    while True:
        parts = [stream.randint(least, size) for _ in range(places)]
        if sum(parts) > 0:
            return [Ratio(part, sum(parts)) for part in parts]


def whole_walk(stream, places, size=4):
    """A whole Walk: a ring through all places is among its steps."""
    rows = [chances(stream, places, size) for _ in range(places)]
    for place, row in enumerate(rows):
        rows[place] = [chance.over(2) for chance in row]
        after = (place + 1) % places
        rows[place][after] = rows[place][after] + Ratio(1, 2)
    return walk_of(rows)


def any_walk(stream, places):
    """A Walk of rings, whole or not: each order of the places keeps like shares, and so do shares of orders."""
    orders = list(itertools.permutations(range(places)))
    parts = chances(stream, 3, 5)
    rows = [[Ratio(0)] * places for _ in range(places)]
    for part in parts:
        order = stream.choice(orders)
        for place in range(places):
            rows[place][order[place]] = rows[place][order[place]] + part
    return Walk(rows, [Ratio(1, places)] * places)


def walks(seed, most=5):
    """Whole walks of two to so many places."""
    stream = made(seed)
    return [whole_walk(stream, places) for places in range(2, most + 1) for _ in range(3)]


def function(stream, places):
    return [ratio(stream) for _ in range(places)]


def digits(value):
    """The most digits of an INTEGER in a value, also above or below a stroke."""
    if isinstance(value, Ratio):
        return max(digits(value.top), digits(value.bottom))
    if isinstance(value, (list, tuple)):
        return max([digits(part) for part in value], default=0)
    return len(str(abs(value)))


def ring_walk(places):
    """The walk that goes from each place to the next one, and from the last one to the first one."""
    return walk_of([[int(j == (i + 1) % places) for j in range(places)] for i in range(places)])


def mixed_walk(walk, other, part):
    """Both mixed, made of their rows."""
    rows = [
        [part * one + (1 - part) * two for one, two in zip(row, line)]
        for row, line in zip(walk.rows(), other.rows())
    ]
    return Walk(rows, walk.shares())


def backed(walk):
    """The walk backwards, made of its rows."""
    places, shares, rows = range(walk.places), walk.shares(), walk.rows()
    return Walk([[(shares[j] * rows[j][i]).over(shares[i]) for j in places] for i in places], shares)


def drawn(walk):
    """The walk that draws its place anew by the shares."""
    return Walk([walk.shares()] * walk.places, walk.shares())


def stayed(walk, part):
    """The walk that stays by the part."""
    stays = Walk([[int(i == j) for j in range(walk.places)] for i in range(walk.places)], walk.shares())
    return mixed_walk(stays, walk, part)


def even_walk(stream, shares):
    """A whole walk with these shares that is alike backwards."""
    places = range(len(shares))
    rows = [[Ratio(0) for _ in places] for _ in places]
    for i in places:
        for j in range(i):
            least = shares[i] if shares[i].is_below(shares[j]) else shares[j]
            much = least * Ratio(stream.randint(1 if i == j + 1 else 0, 5), 5 * len(shares))
            rows[i][j], rows[j][i] = much.over(shares[i]), much.over(shares[j])
    for i in places:
        rows[i][i] = 1 - Ratio.total(rows[i])
    return Walk(rows, shares)


def even_pairs(seed, most=6):
    """Pairs of whole walks with like shares, all of them alike backwards."""
    stream = made(seed)
    found = []
    for places in range(2, most + 1):
        for _ in range(5):
            shares = chances(stream, places, 4, 1)
            one = even_walk(stream, shares)
            found.append((one, even_walk(stream, shares)))
            found.append((drawn(one), one))
    return found


def like_pairs(seed, most=6):
    """Pairs of whole walks with as many places and like shares, alike backwards or not."""
    stream = made(seed)
    found = []
    for places in range(2, most + 1):
        walk = whole_walk(stream, places)
        half = mixed_walk(walk, backed(walk), Ratio(1, 2))
        round_trip = ring_walk(places)
        one = mixed_walk(any_walk(stream, places), round_trip, Ratio(2, 3))
        two = mixed_walk(any_walk(stream, places), round_trip, Ratio(3, 4))
        found += [(walk, walk), (walk, backed(walk)), (walk, half), (walk, drawn(walk)), (walk, stayed(walk, Ratio(1, 3))),
                  (one, two), (one, round_trip), (two, backed(one))]
    return found


def six_digits(stream, places):
    """A whole walk whose chances have six digits above and below the stroke."""
    rows = []
    for _ in range(places):
        row = [Ratio(stream.randint(1, 999999 // places), stream.randint(900000, 999999)) for _ in range(places - 1)]
        rows.append(row + [1 - Ratio.total(row)])
    return walk_of(rows)


def proposal(stream, places, size=4):
    """Chances from each place, many of them 0: places are proposed there alone, back alone, both or neither."""
    return [chances(stream, places, stream.choice([1, size])) for _ in range(places)]


def weights(stream, places):
    return [Ratio(stream.randint(1, 9), stream.randint(1, 5)) for _ in range(places)]


def proposals(seed, most=6, times=6):
    """Proposals with weights, of two to so many places."""
    stream = made(seed)
    return [(proposal(stream, places), weights(stream, places)) for places in range(2, most + 1) for _ in range(times)]


def guess(stream, most=4, size=6):
    """A guess of one to so many worths, the first of them 0 now and then."""
    many = stream.randint(1, most)
    drawn_by = chances(stream, many, size, 1)
    worths = sorted(stream.sample(range(size * 2), many))
    middle = Ratio.total([chance * worth for chance, worth in zip(drawn_by, worths)])
    if middle.sign == 0:
        return [(Ratio(1), Ratio(1))]
    return [(chance, Ratio(worth).over(middle)) for chance, worth in zip(drawn_by, worths)]


def more_spread(stream, told):
    """A guess that is more spread: one worth of this one is put aside to both sides, the least one down to 0 perhaps."""
    if len(told) > 3:
        return told
    at = stream.choice([i for i, (_, worth) in enumerate(told) if worth.sign > 0])
    chance, worth = told[at]
    room = worth - told[at - 1][1] if at > 0 else worth
    wide = at == 0
    if at + 1 < len(told) and (told[at + 1][1] - worth).is_at_most(room):
        room, wide = told[at + 1][1] - worth, False
    step = room * Ratio(stream.randint(1, 4 if wide else 3), 4)
    return told[:at] + [(chance.over(2), worth - step), (chance.over(2), worth + step)] + told[at + 1:]


def samples():
    """For each sort of written forms values of it: the least and the greatest, of whole and of other numbers."""
    stream = made(601)
    half, long = Ratio(1, 2), Ratio(10 ** 300 + 1, 3 * 10 ** 299)
    far = [(Ratio(1, 4), 0), (Ratio(1, 4), half), (Ratio(1, 4), 1), (Ratio(1, 4), Ratio(5, 2))]
    return {
        "numbers": [[], [0], [-7], [long, -long], [1, Ratio(-3, 2), Ratio(4, 2)], list(range(60)), [Ratio(-1, 7)] * 60],
        "function": [[0, 0], [half, -3], [long, 1], function(stream, 6), [-1, 0, 1, 2, 3, 4]],
        "table": [[[0]], [[-half]], [[1, 2], [3, 4]], [[long, 0], [-1, half]], [[ratio(stream) for _ in range(12)] for _ in range(12)]],
        "walk": [halves(), lean(), turn(), apart(), ring_walk(6), whole_walk(stream, 6), any_walk(stream, 5)],
        "proposal": [[[1, 0], [0, 1]], [[half, half], [0, 1]], proposal(stream, 6), [[0] * 5 + [1]] * 6, proposal(stream, 3)],
        "guess": [[(1, 1)], [(half, 0), (half, 2)], far, [(Ratio(1, 3), Ratio(1, 3)), (Ratio(2, 3), Ratio(4, 3))],
                  [(Ratio(1), Ratio(1))], guess(stream)],
        "grid": [[[1, 2], [3, 4]], [[half, 1, 7], [1, long, 2]], [[1, 1], [half, Ratio(1, 9)], [5, 5]], [[1, 1], [1, 1]]],
    }


def retold(value):
    """The same with a Ratio for each number."""
    if isinstance(value, list):
        return [retold(part) for part in value]
    if isinstance(value, tuple):
        return tuple(retold(part) for part in value)
    return value if isinstance(value, (Walk, str)) else Ratio(0) + value
