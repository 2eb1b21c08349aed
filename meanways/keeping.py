"""Which reports can be worked out from a kept one, and tables that show that others cannot."""

from meanways.errors import BadLevel, TooMany
from meanways.exact import added, fraction, multiplied
from meanways.forms import form, product_at, terms_of, with_factors
from meanways.parting import parting_lot, single_test, strict_pairs, strict_tests, test
from meanways.schemes import is_within, shared
from meanways.tables import FIRST_WEIGHT, WEIGHTS, Table
from meanways.telling import least_sufficing


def _check_kept(kept, report):
    """Raises BadLevel or TooMany unless it can be judged whether the report can be worked out from the kept one."""
    if kept.scheme != report.scheme or not is_within(report.level, kept.level):
        raise BadLevel(report.level)
    if len(terms_of(kept)) != 1:
        raise TooMany(1)


def _ratio(top, bottom):
    """The fraction of a number and another one, which is not 0."""
    return fraction(top, bottom) if bottom > 0 else fraction(-top, -bottom)


def _quotients(kept, report):
    """The terms of the report divided by that of the kept one, as a dict from products to fractions."""
    _check_kept(kept, report)
    product, times = form(kept)[1][0]
    inverse = [(kind, first, second, -power) for kind, first, second, power in product]
    terms = terms_of(report)
    return {with_factors(one, inverse): _ratio(terms[one], times) for one in terms}


def _are_seen(level, products):
    """Whether products have only factors that are seen at a level."""
    return all([kind == "many" and is_within(fine, level) for product in products for kind, fine, _, _ in product])


def worked_out(kept, report):
    """The products and fractions by which the report is worked out from the kept one, None if it cannot be."""
    quotients = _quotients(kept, report)
    if not _are_seen(kept.level, quotients):
        return None
    return sorted([(product, quotients[product]) for product in quotients])


# Two tables are called twins if the groups of both have the same names for the level of the kept report. All x but
# that of row 0 are 0, so all groups but that of row 0 tell 0, in the table products of other tests and twins, too.


def _coarse_twin(scheme, level, lower, upper):
    """The twin of the test for two sets that is made of what is seen of these sets at the level."""
    if is_within(level, lower):
        return single_test(scheme)
    return test(scheme, shared(lower, level), shared(upper, level))


def _heavy_twin(table, place):
    """The twin of a table with another weight of the last row."""
    last = list(table.rows[-1])
    last[place] += 1
    return Table(table.columns, table.rows[:-1] + (tuple(last),))


def _some_twins(scheme, level):
    """Pairs of twins; at each product with a factor that is not seen at the level some pair differs."""
    # A product without totals that is the same at all tests and their coarse twins is told by tests for sets within
    # the level, as one of seen factors is, so it has no others. If it has totals of a weight, it differs at the test
    # for the shortest set of them and its heavy twin; the powers of the totals in forms add up to 0, so this is not
    # the greatest closed set.
    found = []
    for lower, upper in strict_pairs(scheme):
        one = test(scheme, lower, upper)
        found.append((one, _coarse_twin(scheme, level, lower, upper)))
        for at in range(len(WEIGHTS)):
            found.append((one, _heavy_twin(one, FIRST_WEIGHT + at)))
    return found


def _changes(quotients, one, other):
    """The terms by which the quotients at row 0 of the one table are more than at that of the other one."""
    found = {}
    for product in quotients:
        more = added([product_at(product, one, 0), multiplied([(-1, 1), product_at(product, other, 0)])])
        if more != (0, 1):
            found[product] = multiplied([quotients[product], more])
    return found


def _unlike_twins(kept, quotients):
    """The first pair of twins at which the quotients are not the same, and by what they differ."""
    for one, other in _some_twins(kept.scheme, kept.level):
        changes = _changes(quotients, one, other)
        if changes:
            return (one, other, changes)


def _with_x(table, x):
    """The table with another x of row 0."""
    keys, _, v, w = table.rows[0]
    return Table(table.columns, ((keys, x, v, w),) + table.rows[1:])


def _balanced(product, one, other):
    """Two tables with such an x of row 0 that x times the product is the same in both."""
    first, second = product_at(product, one, 0), product_at(product, other, 0)
    return (_with_x(one, first[1] * second[0]), _with_x(other, first[0] * second[1]))


def two_tables(kept, report):
    """None if the report can be worked out from the kept one, otherwise two tables that show that it cannot be."""
    quotients = _quotients(kept, report)
    if _are_seen(kept.level, quotients):
        return None
    one, other, changes = _unlike_twins(kept, quotients)
    first, second = _balanced(form(kept)[1][0][0], one, other)
    # Where the changes do not add up to 0, the report tells unlike of both tables.
    for more in parting_lot(changes, strict_tests(kept.scheme)):
        first, second = more * first, more * second
    return (first, second)


def least_lots(kepts, reports):
    """The least lots of kept reports from which all reports can be worked out, by length, then ascending."""
    helpful = [[at for at, kept in enumerate(kepts) if worked_out(kept, report) is not None] for report in reports]
    return least_sufficing(len(kepts), lambda lot: all([any([at in lot for at in some]) for some in helpful]))
