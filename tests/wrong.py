"""What the tests share: values of every kind, and how errors are asked for."""

# None of these is a FRACTION, a POINT or ROW of numbers, a FORMULA, a NAME, or a FONT but the empty one.
ANYTHING = (
    None, True, False, 0, 1, -3, 10 ** 3999, 1.5, "", "a", "sign", b"sign",
    [], [1, 2], ["sign", "a"], {}, {1: 2}, {1, 2}, range(2), object(), len,
    (None,), (True,), ((),), ((), ()), (((1, 2),),), ([1], [2]), ("a",), ("", ""), ("sign", "a", "b", "c"),
    (1.0, 2.0), (1, None), (None, 1), ({}, {}),
)


def deep_tuple(depth):
    """Return tuples in tuples, depth of them."""
    value = ()
    for _ in range(depth - 1):
        value = (value,)
    return value


def raised(test, kind, function, *arguments, **named):
    """Return the error of just this kind that a call raises."""
    with test.assertRaises(kind) as caught:
        function(*arguments, **named)
    test.assertIs(type(caught.exception), kind)
    return caught.exception
