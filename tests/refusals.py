"""One way to test what a function refuses: each parameter, in its sequence, by position and by name."""

import copy

from surerwalks.errors import UnlikePlaces, UnlikeShares
from surerwalks.ratios import Ratio
from surerwalks.walks import Walk, walk_of


def tupled(value):
    """The same with tuples for lists."""
    return tuple(tupled(part) for part in value) if isinstance(value, list) else value


def assert_refused(test, error, value, call):
    """The call raises just this error, with the very value that was passed."""
    with test.assertRaises(error) as caught:
        call()
    test.assertIs(type(caught.exception), error)
    test.assertIs(caught.exception.value, value)


def assert_refusals(test, asked, told):
    """told: for each parameter its name, a good value, its error and values that are not valid.

    Each one that is not valid is passed with good ones ahead of it and, in turn, good and bad ones behind it.
    A parameter without an error takes any value.
    """
    names = [row[0] for row in told]
    good = [row[1] for row in told]
    for at, (name, _, error, wrong) in enumerate(told):
        for value in wrong:
            worst = [row[3][0] if row[3] else row[1] for row in told[at + 1:]]
            for rest in (good[at + 1:], worst):
                passed = good[:at] + [value] + rest
                with test.subTest(function=asked.__name__, parameter=name, wrong=type(value)):
                    assert_refused(test, error, value, lambda: asked(*passed))
                    assert_refused(test, error, value, lambda: asked(**dict(zip(names, passed))))


def assert_same_by_name(test, asked, told):
    """By position, by name, and with tuples for lists the same is returned."""
    names = [row[0] for row in told]
    good = [row[1] for row in told]
    first = asked(*good)
    test.assertEqual(first, asked(*good))
    test.assertEqual(first, asked(**dict(zip(names, good))))
    test.assertEqual(first, asked(*[tupled(value) for value in good]))
    return first


def assert_ratios(test, value):
    """All numbers of a returned value are Ratios, in lists or tuples."""
    if isinstance(value, (list, tuple)):
        for part in value:
            assert_ratios(test, part)
    else:
        test.assertIs(type(value), Ratio)


def spoil(value):
    """Changes all lists of a returned value."""
    if isinstance(value, (list, tuple)):
        for part in value:
            spoil(part)
    if isinstance(value, list):
        value.append("spoiled")
        value[0] = "spoiled"


def assert_pure(test, asked, *passed):
    """What is handed in is not changed, what is told is new, and the same call tells the same again."""
    kept = copy.deepcopy(passed)
    first = asked(*passed)
    told = copy.deepcopy(first)
    test.assertEqual(passed, kept)
    spoil(first)
    test.assertEqual(passed, kept)
    second = asked(*passed)
    test.assertEqual(second, told)
    test.assertIs(type(second), type(told))
    return second


def assert_unlike(test, asked, *rest):
    """Two walks are refused that have not as many places, else unlike shares; ahead of that nothing of being whole."""
    half, third = Ratio(1, 2), Ratio(1, 3)
    walk, long = walk_of([[0, 1], [1, 0]]), walk_of([[0, 1, 0], [0, 0, 1], [1, 0, 0]])
    stays, other = Walk([[1, 0], [0, 1]], [half, half]), Walk([[1, 0], [0, 1]], [third, 1 - third])
    for first, second, error in [
        (walk, long, UnlikePlaces), (long, walk, UnlikePlaces), (stays, long, UnlikePlaces), (long, other, UnlikePlaces),
        (walk, other, UnlikeShares), (other, walk, UnlikeShares), (stays, other, UnlikeShares), (other, stays, UnlikeShares),
    ]:
        with test.assertRaises(error) as caught:
            asked(first, second, *rest)
        test.assertIs(type(caught.exception), error)
