"""One way to test what a function refuses: each parameter, in its sequence, by position and by name."""

from surerwalks.ratios import Ratio


def tupled(value):
    """The same with tuples for lists."""
    return tuple(tupled(part) for part in value) if isinstance(value, list) else value


def assert_refused(test, error, value, call):
    """The call raises just this error, with the very value that was passed."""
    with test.assertRaises(error) as caught:
        call()
    test.assertIs(type(caught.exception), error)
    test.assertIs(caught.exception.value, value)


def assert_refusals(test, asked, told):
    """told: for each parameter its name, a good value, its error and values that are not valid.

    Each one that is not valid is passed with good ones ahead of it and, in turn, good and bad ones behind it.
    A parameter without an error takes any value.
    """
    names = [row[0] for row in told]
    good = [row[1] for row in told]
    for at, (name, _, error, wrong) in enumerate(told):
        for value in wrong:
            worst = [row[3][0] if row[3] else row[1] for row in told[at + 1:]]
            for rest in (good[at + 1:], worst):
                passed = good[:at] + [value] + rest
                with test.subTest(function=asked.__name__, parameter=name, wrong=type(value)):
                    assert_refused(test, error, value, lambda: asked(*passed))
                    assert_refused(test, error, value, lambda: asked(**dict(zip(names, passed))))


def assert_same_by_name(test, asked, told):
    """By position, by name, and with tuples for lists the same is returned."""
    names = [row[0] for row in told]
    good = [row[1] for row in told]
    first = asked(*good)
    test.assertEqual(first, asked(*good))
    test.assertEqual(first, asked(**dict(zip(names, good))))
    test.assertEqual(first, asked(*[tupled(value) for value in good]))
    return first


def assert_ratios(test, value):
    """All numbers of a returned value are Ratios, in lists or tuples."""
    if isinstance(value, (list, tuple)):
        for part in value:
            assert_ratios(test, part)
    else:
        test.assertIs(type(value), Ratio)
