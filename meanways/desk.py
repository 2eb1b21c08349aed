"""A desk: a live table that is spoken to in rows of words."""

from meanways.errors import BadLevel, BadRow, BadText, NoPlace, NothingLeft, NotKept, TooMany
from meanways.forms import form
from meanways.live import Live
from meanways.parting import alike
from meanways.texts import number_text, read_number, read_report, read_row, set_text

UNKNOWN = "unknown"
DONE = "ok"
NONE = "none"
BAR = " | "
MOST_FIGURES = 40


def _are_short(words):
    """Whether all numbers have as many figures as are allowed at most."""
    return all([len(word.removeprefix("-")) <= MOST_FIGURES for word in words])


def _name_text(name):
    """The name of a group as it is written."""
    return ",".join([number_text(number) for number in name]) if name != () else "-"


def _fraction_text(worth):
    """A fraction as it is written."""
    top, bottom = worth
    return number_text(top) if bottom == 1 else number_text(top) + "/" + number_text(bottom)


def _factor_text(factor):
    """A factor as it is written."""
    kind, first, second, power = factor
    # The first one is a weight or a set with another one within it, so it is never the empty set.
    return f"{kind}({first},{set_text(second)})^{power}"


def _term_text(term):
    """A term as it is written."""
    product, times = term
    return " ".join([number_text(times)] + [_factor_text(factor) for factor in product])


def _add(live, text):
    """The answer to `add`."""
    row = read_row(live.scheme.columns, text)
    if row is None or not _are_short(text.split(" ")):
        return UNKNOWN
    return number_text(live.add(row))


def _drop(live, text):
    """The answer to `drop`."""
    at = read_number(text)
    if at is None or not _are_short([text]):
        return UNKNOWN
    live.drop(at)
    return DONE


def _tell(live, text):
    """The answer to `tell`."""
    told = live.tell(read_report(live.scheme, text))
    return "; ".join([_name_text(name) + ": " + _fraction_text(told[name]) for name in told]) if told else NONE


def _changed(live, text):
    """The answer to `changed`."""
    names = live.changed(read_report(live.scheme, text))
    return " ".join([_name_text(name) for name in names]) if names else NONE


def _form(live, text):
    """The answer to `form`."""
    terms = form(read_report(live.scheme, text))[1]
    return "; ".join([_term_text(term) for term in terms]) if terms else "0"


def _alike(live, text):
    """The answer to `alike`."""
    first, bar, second = text.partition(BAR)
    if bar == "":
        return UNKNOWN
    one = read_report(live.scheme, first)
    return "yes" if alike(one, read_report(live.scheme, second)) else "no"


ANSWERS = {"add": _add, "drop": _drop, "tell": _tell, "changed": _changed, "form": _form, "alike": _alike}


def _answered(live, row):
    """The answer to a row, perhaps by an error."""
    if row == "undo":
        live.undo()
        return DONE
    if row == "rows":
        return number_text(len(live.table))
    word, blank, text = row.partition(" ")
    if blank == "" or word not in ANSWERS:
        return UNKNOWN
    answer = ANSWERS[word]
    return answer(live, text)


class Desk:
    """A live table, and what it answers."""

    def __init__(self, scheme):
        self._live = Live(scheme)

    def say(self, row):
        """The answer to a row of words."""
        try:
            return _answered(self._live, row)
        except BadRow:
            return "error badrow"
        except NotKept:
            return "error notkept"
        except NoPlace:
            return "error noplace"
        except NothingLeft:
            return "error nothingleft"
        except BadText:
            return "error badtext"
        except BadLevel:
            return "error badlevel"
        except TooMany:
            return "error toomany"
