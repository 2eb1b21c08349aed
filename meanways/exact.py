"""Fractions as tuples (top, bottom) in least numbers."""

from math import gcd

from meanways.errors import BadNumber


def is_number(thing):
    """Whether a value is an int that is not a bool."""
    return isinstance(thing, int) and not isinstance(thing, bool)


def is_fraction(thing):
    """Whether a value is a fraction."""
    if not isinstance(thing, tuple) or len(thing) != 2:
        return False
    top, bottom = thing
    return is_number(top) and is_number(bottom) and bottom >= 1 and gcd(top, bottom) == 1


def fraction(top, bottom=1):
    """The fraction that is top divided by bottom."""
    if not is_number(top):
        raise BadNumber(top)
    if not is_number(bottom) or bottom < 1:
        raise BadNumber(bottom)
    shared = gcd(top, bottom)
    return (top // shared, bottom // shared)


def _check_fractions(fractions):
    """Raises BadNumber unless the value is a list of fractions."""
    if not isinstance(fractions, (list, tuple)):
        raise BadNumber(fractions)
    for item in fractions:
        if not is_fraction(item):
            raise BadNumber(item)


def added(fractions):
    """The sum of a list of fractions."""
    _check_fractions(fractions)
    total = (0, 1)
    for top, bottom in fractions:
        total = fraction(total[0] * bottom + top * total[1], total[1] * bottom)
    return total


def multiplied(fractions):
    """The product of a list of fractions."""
    _check_fractions(fractions)
    total = (1, 1)
    for top, bottom in fractions:
        total = fraction(total[0] * top, total[1] * bottom)
    return total
