"""Reports: sums, means and parts of groups, told step by step."""

from meanways.errors import BadLevel, BadWeight, NotKept, NoTable, TooMany
from meanways.exact import added, fraction, multiplied
from meanways.schemes import ROW, is_within, joined
from meanways.tables import WEIGHTS, Table, group_name, many, totals

MOST_PARTS = 12
START = ("start",)
NARROWING = ("sum", "mean", "weighed")
SIGNS = {"plus": 1, "minus": -1}


def level_of(scheme, part):
    """The level of a part of a report over a scheme."""
    if part == START:
        return scheme.closure(ROW)
    if part[0] in NARROWING:
        return scheme.closure(part[2])
    return level_of(scheme, part[1])


def _all_parts(part):
    """The list of a part and all parts of which it is made, each as often as it is used."""
    found = [part]
    for item in part[1:]:
        if isinstance(item, tuple):
            found = found + _all_parts(item)
    return found


def _check_narrower(report, letters):
    """Raises BadSet or BadLevel unless the value is a set whose closure lies within the level of the report."""
    if not is_within(report.scheme.closure(letters), report.level):
        raise BadLevel(letters)


def _check_weighed(report, letters, weight):
    """Raises BadSet, BadWeight or BadLevel unless a step over a set by a weight can stand behind the report."""
    report.scheme.closure(letters)  # only for its error, which comes ahead of that of the weight
    if weight not in WEIGHTS:
        raise BadWeight(weight)
    _check_narrower(report, letters)


def check_same_level(one, other):
    """Raises BadLevel if the schemes or the levels of two reports are unequal."""
    if one.scheme != other.scheme or one.level != other.level:
        raise BadLevel(other.level)


def check_table(scheme, table):
    """Raises NoTable or NotKept unless the value is a table that keeps the dependences of the scheme."""
    if not isinstance(table, Table) or table.columns != scheme.columns:
        raise NoTable("not a table with the columns of the scheme")
    at = table.broken(scheme)
    if at is not None:
        raise NotKept(at)


# What a part tells is a dict from the first row of each group for its level to the fraction. A group lies within
# another one if its first row does.


def _enlarged(told, numbers):
    """What is told of each group, times the number at its first row."""
    return {at: multiplied([told[at], (numbers[at], 1)]) for at in told}


def _divided(told, numbers):
    """What is told of each group, divided by the number at its first row."""
    return {at: multiplied([told[at], (1, numbers[at])]) for at in told}


def _summed(table, told, letters):
    """For each group for a set: the sum of what is told of the groups within it."""
    return {group[0]: added([told[at] for at in group if at in told]) for group in table.groups(letters)}


def _step(table, level, told, part):
    """What a part tells that is made from one part of this level, which tells this."""
    word, letters = part[0], part[2]
    if word == "sum":
        return _summed(table, told, letters)
    if word == "mean":
        return _divided(_summed(table, told, letters), many(table, level, letters))
    if word == "times":
        return _enlarged(told, many(table, joined(letters, level), level))
    if word == "over":
        return _divided(told, many(table, joined(letters, level), level))
    weight = part[3]
    heavy = _enlarged(told, totals(table, weight, level))
    if word == "weighed":
        heavy = _summed(table, heavy, letters)
    return _divided(heavy, totals(table, weight, letters))


def _told(scheme, part, table):
    """What a part tells of a table."""
    if part == START:
        return {at: fraction(row[1]) for at, row in enumerate(table.rows)}
    told = _told(scheme, part[1], table)
    if part[0] in SIGNS:
        sign, more = fraction(SIGNS[part[0]]), _told(scheme, part[2], table)
        return {at: added([told[at], multiplied([sign, more[at]])]) for at in told}
    return _step(table, level_of(scheme, part[1]), told, part)


def by_names(table, level, told):
    """What is told of the groups for a level, by their names, in ascending order."""
    named = {group_name(table, level, at): told[at] for at in told}
    return {name: named[name] for name in sorted(list(named))}


def made(scheme, part):
    """The report over a scheme that is made in the way of this part; TooMany if it has too many parts."""
    if len(_all_parts(part)) > MOST_PARTS:
        raise TooMany(MOST_PARTS)
    report = Report(scheme)
    report._level = level_of(scheme, part)
    report._part = part
    return report


class Report:
    """The start, or what steps have made from it; it never changes."""

    def __init__(self, scheme):
        self._scheme = scheme
        self._level = scheme.closure(ROW)
        self._part = START

    @property
    def scheme(self):
        """The scheme, as passed."""
        return self._scheme

    @property
    def level(self):
        """The closed set for whose groups the report tells fractions."""
        return self._level

    def summed(self, letters):
        """The report of the sums over a set."""
        _check_narrower(self, letters)
        return made(self._scheme, ("sum", self._part, letters))

    def mean(self, letters):
        """The report of the means over a set."""
        _check_narrower(self, letters)
        return made(self._scheme, ("mean", self._part, letters))

    def weighed(self, letters, weight):
        """The report of the means over a set in which each group counts by its weight."""
        _check_weighed(self, letters, weight)
        return made(self._scheme, ("weighed", self._part, letters, weight))

    def share(self, letters, weight):
        """The report of the parts that the groups have by their weights in the groups for a set."""
        _check_weighed(self, letters, weight)
        return made(self._scheme, ("share", self._part, letters, weight))

    def times(self, letters):
        """The report times how many groups for a set and the level together there are."""
        self._scheme.closure(letters)  # only for its error: the set itself is kept
        return made(self._scheme, ("times", self._part, letters))

    def over(self, letters):
        """The report divided by how many groups for a set and the level together there are."""
        self._scheme.closure(letters)  # only for its error: the set itself is kept
        return made(self._scheme, ("over", self._part, letters))

    def parts(self):
        """The report as nested tuples, which tell how it is made."""
        return self._part

    def under(self, dependences):
        """The report with the same steps over the scheme with further dependences."""
        return made(self._scheme.with_more(dependences), self._part)

    def __call__(self, table):
        check_table(self._scheme, table)
        return by_names(table, self._level, _told(self._scheme, self._part, table))

    def __add__(self, other):
        if not isinstance(other, Report):
            return NotImplemented
        check_same_level(self, other)
        return made(self._scheme, ("plus", self._part, other._part))

    def __sub__(self, other):
        if not isinstance(other, Report):
            return NotImplemented
        check_same_level(self, other)
        return made(self._scheme, ("minus", self._part, other._part))

    def __len__(self):
        return len(_all_parts(self._part))

    def __eq__(self, other):
        return isinstance(other, Report) and self._scheme == other._scheme and self._part == other._part
