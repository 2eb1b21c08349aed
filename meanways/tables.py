"""Rows with keys and weights, and the groups of rows that agree."""

from meanways.errors import BadColumns, BadRow, BadSet, NoPlace
from meanways.exact import is_number
from meanways.schemes import ROW, is_columns, is_set, joined

WEIGHTS = ("v", "w")
FIRST_WEIGHT = 2


def _is_from(least, thing):
    """Whether a value is a number from the least one on."""
    return is_number(thing) and thing >= least


def is_row(columns, thing):
    """Whether a value is a row with a key for each of these columns."""
    if not isinstance(thing, tuple) or len(thing) != 4:
        return False
    keys, x, v, w = thing
    if not isinstance(keys, tuple) or len(keys) != len(columns):
        return False
    return all([_is_from(0, key) for key in keys]) and is_number(x) and _is_from(1, v) and _is_from(1, w)


def _checked_rows(columns, rows):
    """The rows as a tuple; BadRow unless they are a list of them."""
    if not isinstance(rows, (list, tuple)):
        raise BadRow(None)
    for at, thing in enumerate(rows):
        if not is_row(columns, thing):
            raise BadRow(at)
    return tuple(rows)


def check_place(table, at):
    """Raises NoPlace unless the value is the number of a row of the table."""
    if not _is_from(0, at) or at >= len(table):
        raise NoPlace(at)


def group_name(table, letters, at):
    """The name of the group of a row for a set: its keys, and its number behind them if r is in the set."""
    keys = table.rows[at][0]
    name = tuple([key for column, key in zip(table.columns, keys) if column in letters])
    if ROW in letters:
        return name + (at,)
    return name


def _spread(table, groups, numbers):
    """For each row of the table: the number of the group in which it lies."""
    found = [0] * len(table)
    for group, number in zip(groups, numbers):
        for at in group:
            found[at] = number
    return found


def many(table, fine, coarse):
    """For each row: how many groups for the fine set there are within its group for the coarse one."""
    # A group for the fine set lies in that group for the coarse one in which its first row lies.
    firsts = {group[0]: True for group in table.groups(fine)}
    groups = table.groups(coarse)
    return _spread(table, groups, [len([at for at in group if at in firsts]) for group in groups])


def totals(table, weight, letters):
    """For each row: the total of the weight in its group for a set."""
    place = FIRST_WEIGHT + WEIGHTS.index(weight)
    groups = table.groups(letters)
    return _spread(table, groups, [sum([table.rows[at][place] for at in group]) for group in groups])


def _sizes(table):
    """For each column: one more than its greatest key."""
    return [1 + max([row[0][place] for row in table.rows], default=0) for place in range(len(table.columns))]


def _paired(first, second, sizes):
    """The row of a table product for a pair of rows."""
    keys = tuple([p * size + q for p, q, size in zip(first[0], second[0], sizes)])
    return (keys, first[1] * second[1], first[2] * second[2], first[3] * second[3])


class Table:
    """Columns and rows, which never change."""

    def __init__(self, columns, rows):
        if not is_columns(columns):
            raise BadColumns(columns)
        self._columns = columns
        self._rows = _checked_rows(columns, rows)

    @property
    def columns(self):
        """The columns, as passed."""
        return self._columns

    @property
    def rows(self):
        """The tuple of the rows, as passed."""
        return self._rows

    def groups(self, letters):
        """The groups for a set: lists of numbers of rows, ordered by their first rows."""
        if not is_set(self._columns, letters):
            raise BadSet(letters)
        found = {}
        for at in range(len(self._rows)):
            found.setdefault(group_name(self, letters, at), []).append(at)
        return list(found.values())

    def broken(self, scheme):
        """The number of the first dependence that the table does not keep, None if it keeps all."""
        if scheme.columns != self._columns:
            raise BadColumns(scheme.columns)
        for at, (letters, letter) in enumerate(scheme.dependences):
            if len(self.groups(joined(letters, letter))) != len(self.groups(letters)):
                return at
        return None

    def __len__(self):
        return len(self._rows)

    def __getitem__(self, at):
        check_place(self, at)
        return self._rows[at]

    # Without this one Python would iterate over a table by table[0], table[1] and so on.
    def __iter__(self):
        raise TypeError("a table cannot be iterated over")

    def __mul__(self, other):
        if not isinstance(other, Table):
            return NotImplemented
        if other._columns != self._columns:
            raise BadColumns(other._columns)
        sizes = _sizes(other)
        return Table(self._columns, [_paired(first, second, sizes) for first in self._rows for second in other._rows])

    def __eq__(self, other):
        return isinstance(other, Table) and self._columns == other._columns and self._rows == other._rows
