"""Tests: small tables, products of which part any two reports that are not alike."""

from meanways.errors import BadSet, TooMany
from meanways.exact import added, fraction, multiplied
from meanways.forms import form, joined_terms, product_at, terms_of
from meanways.reports import check_same_level
from meanways.schemes import ROW, is_within
from meanways.tables import Table, group_name

MOST_UNLIKE = 5


def _check_sets(scheme, lower, upper):
    """Raises BadSet unless there is a test for two sets."""
    if scheme.closure(lower) != lower or lower == scheme.closure(ROW):
        raise BadSet(lower)
    if scheme.closure(upper) != upper or not is_within(lower, upper):
        raise BadSet(upper)


def test(scheme, lower, upper):
    """The test for a lower and an upper closed set."""
    _check_sets(scheme, lower, upper)
    columns = scheme.columns
    zeros = (0,) * len(columns)
    second = tuple([0 if column in lower else 1 for column in columns])
    if upper == scheme.closure(ROW):
        return Table(columns, [(zeros, 1, 1, 1), (second, 0, 4, 6)])
    third = tuple([0 if column in lower else 1 if column in upper else 2 for column in columns])
    return Table(columns, [(zeros, 1, 1, 1), (second, 0, 1, 1), (third, 0, 3, 5)])


def single_test(scheme):
    """The test with one row."""
    return Table(scheme.columns, [((0,) * len(scheme.columns), 1, 5, 7)])


def strict_pairs(scheme):
    """All pairs of closed sets, the one within the other and not equal to it, ordered by length, then ascending."""
    closed = scheme.closed_sets()
    return [(lower, upper) for lower in closed for upper in closed if lower != upper and is_within(lower, upper)]


def strict_tests(scheme):
    """The tests for all pairs of unequal closed sets, ordered by the lower one, then by the upper one."""
    return [test(scheme, lower, upper) for lower, upper in strict_pairs(scheme)]


def alike(one, other):
    """Whether two reports tell the same for all tables that keep the dependences."""
    check_same_level(one, other)
    return form(one) == form(other)


def _sum_at(terms, lot):
    """What the terms add up to at row 0 of the table product of a lot of tests."""
    return added([multiplied([terms[product]] + [product_at(product, one, 0) for one in lot]) for product in terms])


def parting_lot(terms, offered):
    """A lot of the offered tests, fewer than the terms, at which these, with fractions, do not add up to 0."""
    for one in offered:
        told = {product: product_at(product, one, 0) for product in terms}
        worths = list(told.values())
        if worths.count(worths[0]) < len(worths):
            lot = parting_lot({product: terms[product] for product in terms if told[product] == worths[0]}, offered)
            # Each time that this test joins the lot, the terms are multiplied by their worths. Those of the first worth
            # do not add up to 0 at the lot, so unlike worths end this loop, at the latest at the number of the others.
            while _sum_at(terms, lot) == (0, 1):
                lot = lot + [one]
            return lot
    # A product is told by what it is at the tests, so there is just one term here.
    return []


def parted(one, other):
    """None if two reports are alike, otherwise a table and the name of a group of which they tell unlike fractions."""
    check_same_level(one, other)
    terms = joined_terms(terms_of(one), terms_of(other), -1)
    if not terms:
        return None
    if len(terms) > MOST_UNLIKE:
        raise TooMany(MOST_UNLIKE)
    table = single_test(one.scheme)
    unlike = {product: fraction(terms[product]) for product in terms}
    for more in parting_lot(unlike, strict_tests(one.scheme)):
        table = table * more
    return (table, group_name(table, one.level, 0))
