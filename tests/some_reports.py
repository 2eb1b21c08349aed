"""A spread of schemes, tables that keep their dependences, and reports; the same ones in each run."""

import random

from meanways.errors import TooMany
from meanways.reports import Report
from meanways.schemes import Scheme
from meanways.tables import Table
import reference

PAIRS = [
    Scheme("a"), Scheme("c", [("c", "r")]), Scheme("ab"), Scheme("bd", [("b", "d")]), Scheme("ab", [("ab", "r")]),
    Scheme("ab", [("a", "b"), ("b", "a")]), Scheme("ac", [("", "a")]), Scheme("ab", [("", "r")]),
    Scheme("abc"), Scheme("abc", [("b", "a")]), Scheme("abd", [("ab", "d"), ("d", "a")]),
    Scheme("acd", [("a", "c"), ("c", "d"), ("ad", "r")]), Scheme("abcd"), Scheme("abcd", [("ab", "c"), ("cd", "r")]),
]


def some_scheme(chance):
    columns = chance.choice(reference.ALL_COLUMNS)
    return Scheme(columns, chance.sample(reference.dependences_of(columns), chance.choice((0, 0, 1, 1, 2, 3))))


def some_row(chance, columns, most_key=2):
    keys = tuple(chance.randint(0, most_key) for _ in columns)
    return (keys, chance.randint(-9, 9), chance.randint(1, 6), chance.randint(1, 6))


def some_table(chance, scheme, most=9):
    """A table that keeps the dependences, of rows that chance tells as long as they keep them, too."""
    rows = []
    for _ in range(chance.randint(0, most + 3)):
        more = rows + [some_row(chance, scheme.columns)] * chance.choice((1, 1, 1, 2))
        if len(more) <= most and reference.keeps_all(scheme, more):
            rows = more
    return Table(scheme.columns, rows)


def sets_within(scheme, level):
    """The sets whose closures lie within a level."""
    return [letters for letters in reference.sets_of(scheme.columns)
            if set(reference.closure(scheme, letters)) <= set(level)]


def narrowed(chance, report, letters):
    """A report behind one step that goes over to the closure of a set."""
    word = chance.choice(("summed", "mean", "weighed"))
    if word == "weighed":
        return report.weighed(letters, chance.choice("vw"))
    return getattr(report, word)(letters)


def stepped(chance, report):
    """A report behind one more step of any kind but plus and minus."""
    scheme, word = report.scheme, chance.choice(("narrow", "narrow", "share", "times", "over"))
    if word == "narrow":
        return narrowed(chance, report, chance.choice(sets_within(scheme, report.level)))
    if word == "share":
        return report.share(chance.choice(sets_within(scheme, report.level)), chance.choice("vw"))
    return getattr(report, word)(chance.choice(reference.sets_of(scheme.columns)))


def beside(chance, report):
    """Another report of the same level, of a few steps."""
    other = Report(report.scheme)
    for _ in range(chance.randint(0, 2)):
        more = stepped(chance, other)
        if set(report.level) <= set(more.level):
            other = more
    if other.level != report.level:
        other = narrowed(chance, other, report.level)
    return stepped_beside(chance, other)


def stepped_beside(chance, report):
    """The report or one behind it, of the same level."""
    if chance.random() < 0.5:
        return report
    return getattr(report, chance.choice(("times", "over")))(chance.choice(reference.sets_of(report.scheme.columns)))


def some_report(chance, scheme, steps=6):
    """A report of some steps; a sum or a difference is one of them now and then."""
    report = Report(scheme)
    for _ in range(chance.randint(0, steps)):
        try:
            if chance.random() < 0.25:
                other = beside(chance, report)
                report = chance.choice((report + other, report - other, other - report))
            else:
                report = stepped(chance, report)
        except TooMany:
            return report
    return report
