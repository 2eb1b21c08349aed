"""Which further dependences make two reports tell the same."""

from meanways.errors import TooMany
from meanways.forms import terms_over
from meanways.reports import check_same_level
from meanways.schemes import ROW, widened
from meanways.telling import least_sufficing

MOST_COLUMNS = 3


def simple(scheme):
    """The ascending list of all simple dependences over the columns of a scheme."""
    letters = scheme.columns + ROW
    return [(column, letter) for column in scheme.columns for letter in letters if letter != column]


def _alike_under(one, other, dependences):
    """Whether two reports of one level are alike under further dependences, which leave their levels equal."""
    scheme = widened(one.scheme, dependences)
    return terms_over(scheme, one) == terms_over(scheme, other)


def least_dependences(one, other):
    """The list of the least lots of simple dependences that make two reports alike, by length, then ascending."""
    check_same_level(one, other)
    if len(one.scheme.columns) > MOST_COLUMNS:
        raise TooMany(MOST_COLUMNS)
    offered = simple(one.scheme)
    found = least_sufficing(len(offered), lambda lot: _alike_under(one, other, [offered[at] for at in lot]))
    return [tuple([offered[at] for at in lot]) for lot in found]
