"""Values of every kind that point [3] of the document tells, and how to compare them."""

from meanways.schemes import Scheme


def deep(levels):
    """A value that is so many levels deep."""
    value = 1
    for level in range(levels):
        value = ([value], (value,), {"a": value})[level % 3]
    return value


def any_values():
    """New values of all kinds, some of them close to right ones."""
    return [
        0, 1, 2, -1, 10 ** 400, -(10 ** 400), True, False, None,
        "", "a", "b", "r", "ab", "ba", "aa", "ra", "abr", "abcd", "abcde", "e", "A", " ", "a ", "a,b", "1", "a" * 1000,
        [], [1], [1, 2], ["a"], ["a", "b"], [None], [[]], [(1, 2)], [("a", "b")], [True, 1],
        (), (1,), (1, 2), (2, 4), (1, 0), (1, -1), (True, 1), (1, True), (1, 2, 3), ("a",), ("a", "b"), ((),), ((1, 2),),
        (("a", "b"),), ([1], 2), (None, None), ("1", 2),
        {}, {1: 2}, {"a": "b"}, {(1, 2): [3]}, {(1, 2): 1}, {None: {}}, {("a", "b"): 1},
        deep(20), Scheme("ab"), Scheme("abcd", [("a", "r")]),
    ]


def same(one, other):
    """Whether two values are equal and of the same kinds throughout."""
    if type(one) is not type(other):
        return False
    if isinstance(one, (list, tuple)):
        return len(one) == len(other) and all(same(a, b) for a, b in zip(one, other))
    if isinstance(one, dict):
        return same(list(one.items()), list(other.items()))
    return one == other


def raised(test, wanted, work, *given, **named):
    """The error that a call raises, which is exactly of the wanted class."""
    with test.assertRaises(wanted) as held:
        work(*given, **named)
    test.assertIs(type(held.exception), wanted)
    return held.exception


def refuses(test, wanted, name, value, work, *given, **named):
    """Checks that a call raises the wanted error with this value in its attribute."""
    error = raised(test, wanted, work, *given, **named)
    test.assertTrue(same(getattr(error, name), value), f"{wanted.__name__}.{name} holds another value")


def compares(test, one, other, wanted):
    """Checks that two values are equal, or that they are not, from both sides."""
    test.assertIs(one == other, wanted)
    test.assertIs(other == one, wanted)
    test.assertIs(one != other, not wanted)
    test.assertIs(other != one, not wanted)
