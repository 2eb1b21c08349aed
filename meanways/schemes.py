"""Columns with the dependences between them."""

from meanways.errors import BadColumns, BadDependence, BadSet, TooMany

COLUMNS = "abcd"
ROW = "r"
MOST_DEPENDENCES = 20


def _picked(letters, given):
    """Those of the letters that the given string contains, in their order."""
    return "".join([letter for letter in letters if letter in given])


def _all_sets(letters):
    """All sets of these ascending letters."""
    found = [""]
    for letter in letters:
        found = found + [one + letter for one in found]
    return found


def is_columns(given):
    """Whether a value is an ascending string of one to four columns."""
    return isinstance(given, str) and given != "" and given == _picked(COLUMNS, given)


def is_set(columns, letters):
    """Whether a value is a set of these columns and r."""
    return isinstance(letters, str) and letters == _picked(columns + ROW, letters)


def is_within(small, large):
    """Whether all letters of the one set are in the other one."""
    return all([letter in large for letter in small])


def joined(one, other):
    """The set of all letters of two sets."""
    return _picked(COLUMNS + ROW, one + other)


def shared(one, other):
    """The set of the letters that are in both sets."""
    return _picked(one, other)


def is_dependence(columns, thing):
    """Whether a value is a dependence over these columns."""
    if not isinstance(thing, tuple) or len(thing) != 2:
        return False
    letters, letter = thing
    return is_set(columns, letters) and is_set(columns, letter) and len(letter) == 1


def _checked_dependences(columns, dependences):
    """The dependences as a tuple; BadDependence unless they are a list of them."""
    if not isinstance(dependences, (list, tuple)):
        raise BadDependence(None)
    for at, thing in enumerate(dependences[:MOST_DEPENDENCES]):
        if not is_dependence(columns, thing):
            raise BadDependence(at)
    if len(dependences) > MOST_DEPENDENCES:
        raise BadDependence(MOST_DEPENDENCES)
    return tuple(dependences)


def _is_closed(columns, dependences, letters):
    """Whether a set contains all that it brings along."""
    if ROW in letters and not is_within(columns, letters):
        return False
    return all([letter in letters for given, letter in dependences if is_within(given, letters)])


def _all_closed(columns, dependences):
    """The tuple of all closed sets, ordered by length, then ascending."""
    found = [one for one in _all_sets(columns + ROW) if _is_closed(columns, dependences, one)]
    return tuple(sorted(found, key=lambda one: (len(one), one)))


def widened(scheme, more):
    """The scheme with further dependences, however many there are then."""
    wide = Scheme(scheme.columns)
    wide._dependences = scheme.dependences + tuple(more)
    wide._closed = tuple([one for one in scheme.closed_sets() if _is_closed(scheme.columns, more, one)])
    return wide


class Scheme:
    """One to four columns and the dependences that tables keep."""

    def __init__(self, columns, dependences=()):
        if not is_columns(columns):
            raise BadColumns(columns)
        self._columns = columns
        self._dependences = _checked_dependences(columns, dependences)
        self._closed = _all_closed(self._columns, self._dependences)

    @property
    def columns(self):
        """The columns, as passed."""
        return self._columns

    @property
    def dependences(self):
        """The tuple of the dependences, as passed."""
        return self._dependences

    def closure(self, letters):
        """The least closed set that contains a set."""
        if not is_set(self._columns, letters):
            raise BadSet(letters)
        # What two closed sets share is closed, so the least one around is the only shortest one.
        return min([one for one in self._closed if is_within(letters, one)], key=len)

    def closed_sets(self):
        """The list of all closed sets, ordered by length, then ascending."""
        return list(self._closed)

    def with_more(self, dependences):
        """The scheme with further dependences behind its own ones."""
        more = _checked_dependences(self._columns, dependences)
        if len(self._dependences) + len(more) > MOST_DEPENDENCES:
            raise TooMany(MOST_DEPENDENCES)
        return Scheme(self._columns, self._dependences + more)

    def __eq__(self, other):
        return isinstance(other, Scheme) and self._columns == other._columns and self._closed == other._closed
