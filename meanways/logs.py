"""Logs: what stands in a live table, deed by deed."""

from meanways.errors import BadLog, BadRow, NotKept
from meanways.exact import is_number
from meanways.live import Live
from meanways.tables import is_row


def log_of(live):
    """The list of what stands in a live table, in order."""
    return live.deeds()


def _adds(live, row):
    """Whether a value is a row that can come; if so, it does."""
    try:
        live.add(row)
    except (BadRow, NotKept):
        return False
    return True


def _drops(live, at, row):
    """Whether two values are the number of a row and this row; if so, it goes."""
    rows = live.table.rows
    if not is_number(at) or at < 0 or at >= len(rows):
        return False
    # A row is equal to a value with True in the place of 1, too, which is none.
    if not is_row(live.scheme.columns, row) or row != rows[at]:
        return False
    live.drop(at)
    return True


def _goes_on(live, item):
    """Whether a value can stand behind the log of a live table; if so, it happens there."""
    if not isinstance(item, tuple):
        return False
    if len(item) == 2 and item[0] == "add":
        return _adds(live, item[1])
    if len(item) == 3 and item[0] == "drop":
        return _drops(live, item[1], item[2])
    return False


def _wrong_from(live, log):
    """The number of the first item that cannot stand in a log, None if all can; those ahead of it happen."""
    if not isinstance(log, (list, tuple)):
        return 0
    for at, item in enumerate(log):
        if not _goes_on(live, item):
            return at
    return None


def first_wrong(scheme, log):
    """None if a value is the log of a live table over a scheme, otherwise the number of the first wrong item."""
    return _wrong_from(Live(scheme), log)


def replayed(scheme, log):
    """A live table over a scheme with this log."""
    live = Live(scheme)
    at = _wrong_from(live, log)
    if at is not None:
        raise BadLog(at)
    return live
