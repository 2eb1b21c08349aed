"""What the document tells, worked out straight from its words and by other ways than the program's."""

import collections
import itertools
from fractions import Fraction

ALL_COLUMNS = ["".join(some) for many in (1, 2, 3, 4) for some in itertools.combinations("abcd", many)]
SIGNS = {"plus": 1, "minus": -1}


def sets_of(columns):
    """All sets over some columns, ordered by length, then ascending."""
    letters = columns + "r"
    return ["".join(some) for many in range(len(letters) + 1) for some in itertools.combinations(letters, many)]


def dependences_of(columns):
    return [(letters, letter) for letters in sets_of(columns) for letter in columns + "r"]


def grown(columns, dependences, letters):
    """The closure, letter by letter, as point [12] tells it."""
    held = set(letters)
    while True:
        before = len(held)
        if "r" in held:
            held |= set(columns)
        for given, letter in dependences:
            if set(given) <= held:
                held.add(letter)
        if len(held) == before:
            return "".join(sorted(held))


def closure(scheme, letters):
    return grown(scheme.columns, scheme.dependences, letters)


def agree(columns, rows, letters, one, other):
    """Whether two rows, given by their numbers, agree on a set: point [11]."""
    return all(one == other if letter == "r"
               else rows[one][0][columns.index(letter)] == rows[other][0][columns.index(letter)]
               for letter in letters)


def group(columns, rows, letters, at):
    """The numbers of the rows in the group of a row, ascending."""
    return tuple(beside for beside in range(len(rows)) if agree(columns, rows, letters, at, beside))


def groups(columns, rows, letters):
    """The groups for a set, in the order of their first rows."""
    return sorted({group(columns, rows, letters, at) for at in range(len(rows))})


def keeps(columns, rows, dependence):
    """Whether rows keep a dependence: point [12]."""
    letters, letter = dependence
    return all(agree(columns, rows, letter, one, other)
               for one, other in itertools.combinations(range(len(rows)), 2)
               if agree(columns, rows, letters, one, other))


def keeps_all(scheme, rows):
    return all(keeps(scheme.columns, rows, one) for one in scheme.dependences)


def level(scheme, part):
    """The level of a part: point [20]."""
    if part[0] == "start":
        return closure(scheme, "r")
    if part[0] in ("sum", "mean", "weighed"):
        return closure(scheme, part[2])
    return level(scheme, part[1])


def weight_of(rows, weight, numbers):
    return sum(rows[at][{"v": 2, "w": 3}[weight]] for at in numbers)


def within(columns, rows, letters, numbers):
    """How many groups for a set there are among rows that are whole groups for it."""
    return len({group(columns, rows, letters, at) for at in numbers})


def name(columns, rows, letters, at):
    """The name of the group of a row: point [21]."""
    keys = [rows[at][0][columns.index(letter)] for letter in letters if letter != "r"]
    return tuple(keys + [at] * ("r" in letters))


def told(scheme, part, rows):
    """What a part tells of each group, a group being the tuple of its rows' numbers: point [20]."""
    columns, word = scheme.columns, part[0]
    if word == "start":
        return {(at,): Fraction(row[1]) for at, row in enumerate(rows)}
    earlier, before = told(scheme, part[1], rows), level(scheme, part[1])
    if word in SIGNS:
        other = told(scheme, part[2], rows)
        return {one: earlier[one] + SIGNS[word] * other[one] for one in earlier}
    if word in ("times", "over"):
        both = "".join(sorted(set(part[2] + before)))
        counts = {one: within(columns, rows, both, one) for one in earlier}
        return {one: earlier[one] * (counts[one] if word == "times" else Fraction(1, counts[one])) for one in earlier}
    if word == "share":
        return {one: earlier[one] * Fraction(weight_of(rows, part[3], one),
                                             weight_of(rows, part[3], group(columns, rows, part[2], one[0])))
                for one in earlier}
    found = {}
    for outer in groups(columns, rows, closure(scheme, part[2])):
        inner = [one for one in earlier if set(one) <= set(outer)]
        if word == "sum":
            found[outer] = sum((earlier[one] for one in inner), Fraction(0))
        elif word == "mean":
            found[outer] = sum((earlier[one] for one in inner), Fraction(0)) / len(inner)
        else:
            heavy = sum((earlier[one] * weight_of(rows, part[3], one) for one in inner), Fraction(0))
            found[outer] = heavy / weight_of(rows, part[3], outer)
    return found


def pair(fraction):
    return (fraction.numerator, fraction.denominator)


def named(scheme, part, table):
    """What report(table) must be."""
    last = level(scheme, part)
    found = {name(scheme.columns, table.rows, last, one[0]): pair(worth)
             for one, worth in told(scheme, part, table.rows).items()}
    return {one: found[one] for one in sorted(found)}


def factors(scheme, part):
    """What the products are multiplied by in a step: point [31]."""
    before, letters = level(scheme, part[1]), closure(scheme, part[2])
    both = closure(scheme, "".join(sorted(set(part[2] + before))))
    found = {"sum": [], "mean": [(("many", before, letters), -1)], "times": [(("many", both, before), 1)],
             "over": [(("many", both, before), -1)]}
    for word in ("weighed", "share"):
        found[word] = [(("total", part[-1], before), 1), (("total", part[-1], letters), -1)]
    return found[part[0]]


def terms(scheme, part):
    """The terms of a part, a product being a frozenset of pairs of what a factor is and its power."""
    if part[0] == "start":
        return {frozenset(): 1}
    found = collections.Counter()
    if part[0] in SIGNS:
        for product, times in terms(scheme, part[1]).items():
            found[product] += times
        for product, times in terms(scheme, part[2]).items():
            found[product] += SIGNS[part[0]] * times
    else:
        for product, times in terms(scheme, part[1]).items():
            powers = collections.Counter(dict(product))
            for what, power in factors(scheme, part):
                if what[0] != "many" or what[1] != what[2]:
                    powers[what] += power
            found[frozenset((what, power) for what, power in powers.items() if power)] += times
    return {product: times for product, times in found.items() if times}


def form(scheme, part):
    """What form(report) must be."""
    told_terms = [(tuple(sorted(what + (power,) for what, power in product)), times)
                  for product, times in terms(scheme, part).items()]
    return (level(scheme, part), tuple(sorted(told_terms)))


def product_at(product, table, at):
    """What a product is at a row: point [30]."""
    columns, rows = table.columns, table.rows
    found = Fraction(1)
    for kind, first, second, power in product:
        if kind == "many":
            found *= Fraction(within(columns, rows, first, group(columns, rows, second, at))) ** power
        else:
            found *= Fraction(weight_of(rows, first, group(columns, rows, second, at))) ** power
    return found


def counted(report_form, table, at):
    """For how much a row counts, by a form: point [31]."""
    return sum((times * product_at(product, table, at) for product, times in report_form[1]), Fraction(0))


def paired(one, other):
    """The rows of the table product: point [13]."""
    found = []
    for first, second in itertools.product(one.rows, other.rows):
        keys = []
        for place in range(len(one.columns)):
            greatest = max(row[0][place] for row in other.rows)
            keys.append(first[0][place] * (greatest + 1) + second[0][place])
        found.append((tuple(keys), first[1] * second[1], first[2] * second[2], first[3] * second[3]))
    return tuple(found)


def test_rows(columns, greatest, lower, upper):
    """The rows of a test: point [40]."""
    keys = [(0,) * len(columns),
            tuple(0 if column in lower else 1 for column in columns),
            tuple(0 if column in lower else 1 if column in upper else 2 for column in columns)]
    if upper == greatest:
        return ((keys[0], 1, 1, 1), (keys[1], 0, 4, 6))
    return ((keys[0], 1, 1, 1), (keys[1], 0, 1, 1), (keys[2], 0, 3, 5))


def tests_of(scheme):
    """The columns and rows of the tests of a scheme, in their order: point [42]."""
    columns = scheme.columns
    greatest = closure(scheme, "r")
    closed = {closure(scheme, letters) for letters in sets_of(columns)}
    pairs = [(lower, upper) for lower in closed for upper in closed if set(lower) < set(upper)]
    pairs = sorted(pairs, key=lambda pair: (len(pair[0]), pair[0], len(pair[1]), pair[1]))
    single = (((0,) * len(columns), 1, 5, 7),)
    return pairs, [single] + [test_rows(columns, greatest, lower, upper) for lower, upper in pairs]


def simple(columns):
    """All simple dependences, ascending: point [50]."""
    return sorted((column, letter) for column in columns for letter in columns + "r" if column != letter)


def divided(one, other):
    """A product divided by another one, as point [30] writes it."""
    powers = collections.Counter()
    for product, sign in ((one, 1), (other, -1)):
        for factor in product:
            powers[factor[:3]] += sign * factor[3]
    return tuple(sorted(what + (power,) for what, power in powers.items() if power))


def quotients(kept, report):
    """Each term of a form divided by the single term of the kept one: the product, and a Fraction."""
    (base, times), = kept[1]
    return [(divided(product, base), Fraction(number, times)) for product, number in report[1]]


def is_seen(level, factor):
    """Whether a factor is seen at a level: point [60]."""
    return factor[0] == "many" and set(factor[1]) <= set(level)


def worked_out(kept, report):
    """What worked_out(..) must be, from both forms."""
    found = quotients(kept, report)
    if any(not is_seen(kept[0], factor) for product, _ in found for factor in product):
        return None
    return sorted((product, pair(number)) for product, number in found)


def least(many, suffices):
    """All ascending tuples of numbers that suffice, while no part of them does: by length, then ascending."""
    right = [lot for size in range(many + 1) for lot in itertools.combinations(range(many), size) if suffices(lot)]
    return [lot for lot in right if not any(set(less) < set(lot) for less in right)]


def lost_or_changed(before, now):
    """The names of what is told just once, or with another fraction."""
    return sorted(name for name in {**before, **now} if name not in before or name not in now
                  or before[name] != now[name])


def from_kept(kept_told, kept_level, level, found, table):
    """What a report of a level tells of a table, from what the kept one tells and what worked_out(..) has found."""
    columns, rows = table.columns, table.rows
    worths = {}
    for one in groups(columns, rows, kept_level):
        times = sum((Fraction(*number) * product_at(product, table, one[0]) for product, number in found), Fraction(0))
        at = name(columns, rows, level, one[0])
        worths[at] = worths.get(at, 0) + times * Fraction(*kept_told[name(columns, rows, kept_level, one[0])])
    return {at: pair(Fraction(worths[at])) for at in sorted(worths)}
