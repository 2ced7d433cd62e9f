"""What the tests share: values of any kind, and catching one error."""

from pulledonce.errors import BadSource, BadStage, StreamError
from pulledonce.programs import Program


def nested(wrap, times):
    value = "a"
    for _ in range(times):
        value = wrap(value)
    return value


def any_values():
    """Values of every kind that point [1] of the document names, new ones at each call."""
    return [
        0, 1, 4, 5, -1, 10 ** 59, -(10 ** 59), True, False, None,
        "", " ", "~", "\n", "a", "b\n", "e", "A", "ab", "abcd", "0", "map", "flat",
        (), (0,), ("a",), ("flat", "flat"), ("zip", None), ([], 1), ({}, "f"), (None, None),
        [], [0], ["a"], [None], [[]], [0, 1], [True], [0, 0],
        {}, {"a": 1}, {0: "a"}, {None: [()]}, {("a", 1): {}},
        nested(lambda value: (value,), 30), nested(lambda value: [value], 30),
        nested(lambda value: {"a": value}, 30),
        Program("a"), Program("b", [("lots", 2)]), BadSource([1]), BadStage(0),
    ]


def same(first, second):
    """Equal, and of the same types: True is no 1 here."""
    return type(first) is type(second) and repr(first) == repr(second)


def error_of(call, *given, **named):
    """The package's error that a call raises, or None."""
    try:
        call(*given, **named)
    except StreamError as error:
        return error
    return None
