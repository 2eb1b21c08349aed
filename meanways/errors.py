"""The errors of the package."""


def _copied(value):
    """The value, with lists and dicts of its own at all levels."""
    if isinstance(value, list):
        return [_copied(item) for item in value]
    if isinstance(value, tuple):
        return tuple([_copied(item) for item in value])
    if isinstance(value, dict):
        return {key: _copied(value[key]) for key in value}
    return value


class MeanError(ValueError):
    """What all errors of the package are."""


# The messages are fixed texts: Python refuses to write out a very long number.


class BadNumber(MeanError):
    """A value is no number or fraction as it is needed."""

    def __init__(self, number):
        MeanError.__init__(self, "not a number or fraction that can stand here")
        self.number = _copied(number)


class BadColumns(MeanError):
    """A value tells no columns, or other ones than are needed."""

    def __init__(self, given):
        MeanError.__init__(self, "not the columns that are needed")
        self.given = _copied(given)


class BadSet(MeanError):
    """A value is no set as it is needed."""

    def __init__(self, letters):
        MeanError.__init__(self, "not a set that can stand here")
        self.letters = _copied(letters)


class BadDependence(MeanError):
    """An item is no dependence, or a value no list of dependences."""

    def __init__(self, at):
        MeanError.__init__(self, "not a list of at most twenty dependences over the columns")
        self.at = _copied(at)


class BadRow(MeanError):
    """An item is no row, or a value no list of rows."""

    def __init__(self, at):
        MeanError.__init__(self, "not rows over the columns")
        self.at = _copied(at)


class NoPlace(MeanError):
    """A value is not the number of a row of the table."""

    def __init__(self, place):
        MeanError.__init__(self, "not the number of a row of the table")
        self.place = _copied(place)


class BadWeight(MeanError):
    """A value does not name a weight."""

    def __init__(self, weight):
        MeanError.__init__(self, "not the name of a weight")
        self.weight = _copied(weight)


class BadLevel(MeanError):
    """A set, or a report with its level, does not fit to a report."""

    def __init__(self, letters):
        MeanError.__init__(self, "not a level or scheme that fits to the report")
        self.letters = _copied(letters)


class TooMany(MeanError):
    """There would be more of something than the limit."""

    def __init__(self, limit):
        MeanError.__init__(self, "more than the limit allows")
        self.limit = _copied(limit)


class NoTable(MeanError):
    """A value is no table with the columns that are needed; made from a message."""


class NotKept(MeanError):
    """A table does not keep a dependence."""

    def __init__(self, at):
        MeanError.__init__(self, "the table does not keep a dependence")
        self.at = _copied(at)


class NoProduct(MeanError):
    """No product has these answers."""

    def __init__(self, at):
        MeanError.__init__(self, "no product has these answers")
        self.at = _copied(at)


class NothingLeft(MeanError):
    """There is no step that could be taken back; made from a message."""


class BadLog(MeanError):
    """An item cannot stand in a log."""

    def __init__(self, at):
        MeanError.__init__(self, "not the log of a live table over the scheme")
        self.at = _copied(at)


class BadText(MeanError):
    """A text has not the form that is needed."""

    def __init__(self, place):
        MeanError.__init__(self, "not a text of the form that is needed")
        self.place = _copied(place)
