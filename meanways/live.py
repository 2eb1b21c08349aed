"""Live tables: rows come and go, and each deed can be taken back."""

from meanways.errors import BadLevel, BadRow, NothingLeft, NotKept
from meanways.tables import Table, check_place, is_row


class State:
    """A table of some time, and the deed by which it came from the state before; it never changes."""

    def __init__(self, now, deed, before):
        self.now = now
        self.deed = deed
        self.before = before


class Block:
    """The state in which a block began, and the block around it."""

    def __init__(self, state, around):
        self.state = state
        self.around = around


class Live:
    """A table to which rows come and from which they go."""

    def __init__(self, scheme):
        self._scheme = scheme
        self._state = State(Table(scheme.columns, []), None, None)
        self._block = None

    @property
    def scheme(self):
        """The scheme, as passed."""
        return self._scheme

    @property
    def table(self):
        """The table of now."""
        return self._state.now

    def _go_on(self, rows, deed):
        """Goes over to the state with these rows; NotKept if they break a dependence."""
        now = Table(self._scheme.columns, rows)
        at = now.broken(self._scheme)
        if at is not None:
            raise NotKept(at)
        self._state = State(now, deed, self._state)

    def _check_scheme(self, report):
        """Raises BadLevel unless the report is one over the scheme."""
        if report.scheme != self._scheme:
            raise BadLevel(report.level)

    def _check_left(self):
        """Raises NothingLeft unless a deed stands."""
        if self._state.before is None:
            raise NothingLeft("no addition and no loss stands")

    def add(self, row):
        """A row comes, behind the others; its number."""
        rows = self.table.rows
        if not is_row(self._scheme.columns, row):
            raise BadRow(None)
        self._go_on(rows + (row,), ("add", row))
        return len(rows)

    def drop(self, at):
        """A row goes; the row."""
        check_place(self.table, at)
        rows = self.table.rows
        self._go_on(rows[:at] + rows[at + 1:], ("drop", at, rows[at]))
        return rows[at]

    def tell(self, report):
        """What the report tells of the table of now."""
        self._check_scheme(report)
        return report(self.table)

    def changed(self, report):
        """The ascending list of the names of which the last deed has changed what the report tells."""
        self._check_scheme(report)
        self._check_left()
        now, before = report(self.table), report(self._state.before.now)
        names = sorted(set(list(now) + list(before)))
        return [name for name in names if now.get(name) != before.get(name)]

    def undo(self):
        """Takes the last deed back."""
        self._check_left()
        self._state = self._state.before

    def deeds(self):
        """The list of what stands, in order: ("add", row) and ("drop", at, row)."""
        found, state = [], self._state
        while state.before is not None:
            found.append(state.deed)
            state = state.before
        return found[::-1]

    def __enter__(self):
        self._block = Block(self._state, self._block)
        return self

    def __exit__(self, kind, value, trace):
        if kind is not None:
            self._state = self._block.state
        self._block = self._block.around

    def attempt(self, work):
        """What the work returns, to which the live table is passed within a block."""
        with self as same:
            return work(same)

    def copy(self):
        """An independent live table with all that stands, in no block."""
        same = Live(self._scheme)
        same._state = self._state
        return same
