"""What the tests share: values of every kind, how errors are asked for, and time limits."""

from time import perf_counter

# None of these is a FRACTION, a POINT or ROW of numbers, a FORMULA, a NAME, or a FONT but the empty one.
ANYTHING = (
    None, True, False, 0, 1, -3, 10 ** 3999, 1.5, "", "a", "sign", b"sign",
    [], [1, 2], ["sign", "a"], {}, {1: 2}, {1, 2}, range(2), object(), len,
    (None,), (True,), ((),), ((), ()), (((1, 2),),), ([1], [2]), ("a",), ("", ""), ("sign", "a", "b", "c"),
    (1.0, 2.0), (1, None), (None, 1), ({}, {}),
)


def deep_tuple(depth):
    """Return tuples in tuples, depth of them."""
    value = ()
    for _ in range(depth - 1):
        value = (value,)
    return value


def raised(test, kind, function, *arguments, **named):
    """Return the error of just this kind that a call raises."""
    with test.assertRaises(kind) as caught:
        function(*arguments, **named)
    test.assertIs(type(caught.exception), kind)
    return caught.exception


class Within:
    """A "with" that fails where what is done in it takes longer than so many seconds."""

    def __init__(self, test, seconds):
        self.test, self.seconds = test, seconds

    def __enter__(self):
        self.start = perf_counter()

    def __exit__(self, kind, value, trace):
        if kind is None:
            self.test.assertLess(perf_counter() - self.start, self.seconds)
