"""Forms: reports as sums of products, and what these are at the rows of a table."""

from meanways.exact import added, fraction, multiplied
from meanways.reports import SIGNS, START, by_names, check_table, level_of
from meanways.schemes import joined
from meanways.tables import check_place, many, totals

# Terms are worked with as a dict from each product to its number.


def _many_factors(fine, coarse, power):
    """The factor many(fine, coarse) with a power as a list, which is empty if it is 1 at all rows."""
    if fine == coarse:
        return []
    return [("many", fine, coarse, power)]


def _factors(scheme, part):
    """The factors by which a step from one part multiplies all products."""
    word, level, letters = part[0], level_of(scheme, part[1]), part[2]
    if word == "sum":
        return []
    if word == "mean":
        return _many_factors(level, scheme.closure(letters), -1)
    if word in ("weighed", "share"):
        return [("total", part[3], level, 1), ("total", part[3], scheme.closure(letters), -1)]
    return _many_factors(scheme.closure(joined(letters, level)), level, 1 if word == "times" else -1)


def with_factors(product, more):
    """The product times further factors."""
    powers = {factor[:3]: factor[3] for factor in product}
    for kind, first, second, power in more:
        powers[(kind, first, second)] = powers.get((kind, first, second), 0) + power
    return tuple(sorted([like + (powers[like],) for like in powers if powers[like] != 0]))


def joined_terms(one, other, sign):
    """The terms of a sum of reports, or of a difference if the sign is -1."""
    found = {product: one[product] for product in one}
    for product in other:
        found[product] = found.get(product, 0) + sign * other[product]
    return {product: found[product] for product in found if found[product] != 0}


def _terms(scheme, part):
    """The terms of a part of a report."""
    if part == START:
        return {(): 1}
    terms = _terms(scheme, part[1])
    if part[0] in SIGNS:
        return joined_terms(terms, _terms(scheme, part[2]), SIGNS[part[0]])
    more = _factors(scheme, part)
    return {with_factors(product, more): terms[product] for product in terms}


def terms_over(scheme, report):
    """The terms, as a dict, that a report has over a scheme to which its steps belong, too."""
    return _terms(scheme, report.parts())


def terms_of(report):
    """The terms of a report, as a dict."""
    return terms_over(report.scheme, report)


def form(report):
    """The form of a report: its level and its terms."""
    terms = terms_of(report)
    return (report.level, tuple(sorted([(product, terms[product]) for product in terms])))


def _powered(number, power):
    """A number from 1 on with a power that may be negative, as a fraction."""
    base = (number, 1) if power > 0 else (1, number)
    return multiplied([base] * abs(power))


def _factor_by_row(factor, table):
    """For each row: the fraction that a factor is."""
    kind, first, second, power = factor
    if kind == "many":
        numbers = many(table, first, second)
    else:
        numbers = totals(table, first, second)
    return [_powered(number, power) for number in numbers]


def _product_by_row(product, table):
    """For each row: the fraction that a product is."""
    found = [(1, 1)] * len(table)
    for factor in product:
        found = [multiplied([one, more]) for one, more in zip(found, _factor_by_row(factor, table))]
    return found


def _count_by_row(report, table):
    """For each row: the fraction for which it counts in the report."""
    terms = terms_of(report)
    found = [(0, 1)] * len(table)
    for product in terms:
        times = fraction(terms[product])
        found = [added([one, multiplied([times, more])]) for one, more in zip(found, _product_by_row(product, table))]
    return found


def product_at(product, table, at):
    """The fraction that a product is at a row."""
    check_place(table, at)
    return _product_by_row(product, table)[at]


def counted(report, table, at):
    """The fraction for which a row counts in the report, by its form."""
    check_table(report.scheme, table)
    check_place(table, at)
    return _count_by_row(report, table)[at]


def by_form(report, table):
    """What the report tells of the table, by its form."""
    check_table(report.scheme, table)
    counts = _count_by_row(report, table)
    shares = [multiplied([fraction(row[1]), count]) for row, count in zip(table.rows, counts)]
    told = {group[0]: added([shares[at] for at in group]) for group in table.groups(report.level)}
    return by_names(table, report.level, told)
