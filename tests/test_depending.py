"""Simple dependences, and the least lots of them that make two reports alike."""

import itertools
import random
import unittest

from meanways.depending import least_dependences, simple
from meanways.errors import BadLevel, TooMany
from meanways.parting import alike
from meanways.reports import Report
from meanways.schemes import Scheme
import reference
from reference import ALL_COLUMNS
from some_reports import PAIRS, beside, some_report, some_scheme
from some_values import refuses, same

PLAIN = Scheme("ab")
AB, AR, BA, BR = ("a", "b"), ("a", "r"), ("b", "a"), ("b", "r")
# What makes a and b tell the same: each tells the other one, or both tell the row.
EITHER = [(AB, BA), (AB, BR), (AR, BA), (AR, BR)]


class OverMore:
    """A scheme with any number of further dependences, as reference asks for it."""

    def __init__(self, scheme, more):
        self.columns = scheme.columns
        self.dependences = scheme.dependences + tuple(more)


def lots_by_words(one, other):
    """What least_dependences(..) must be, from the forms under each lot."""
    offered = reference.simple(one.scheme.columns)
    found = []
    for size in range(len(offered) + 1):
        for lot in itertools.combinations(offered, size):
            if not any(set(less) < set(lot) for less in found):
                first = reference.form(OverMore(one.scheme, lot), one.parts())
                if first == reference.form(OverMore(other.scheme, lot), other.parts()):
                    found.append(lot)
    return found


class Simple(unittest.TestCase):

    def test_in_full(self):
        for columns, wanted in [
            ("a", [("a", "r")]), ("d", [("d", "r")]), ("ab", [AB, AR, BA, BR]),
            ("bd", [("b", "d"), ("b", "r"), ("d", "b"), ("d", "r")]),
            ("abc", [("a", "b"), ("a", "c"), ("a", "r"), ("b", "a"), ("b", "c"), ("b", "r"), ("c", "a"), ("c", "b"),
                     ("c", "r")]),
        ]:
            for told in (simple(Scheme(columns)), simple(scheme=Scheme(columns))):
                self.assertTrue(same(told, wanted), told)

    def test_all_columns_and_dependences(self):
        chance = random.Random(50)
        for columns in ALL_COLUMNS:
            self.assertEqual(len(simple(Scheme(columns))), len(columns) ** 2)
        for scheme in PAIRS + [some_scheme(chance) for _ in range(100)]:
            self.assertTrue(same(simple(scheme), reference.simple(scheme.columns)))

    def test_a_new_list_each_time(self):
        told = simple(PLAIN)
        told.append(1)
        self.assertEqual(simple(PLAIN), [AB, AR, BA, BR])


class LeastDependences(unittest.TestCase):

    def check(self, one, other, wanted):
        parts = (one.parts(), other.parts(), one.scheme.dependences, other.scheme.dependences)
        for told in (least_dependences(one, other), least_dependences(one=one, other=other),
                     least_dependences(other, one)):
            self.assertTrue(same(told, wanted), (told, wanted, parts))
        self.assertEqual(parts, (one.parts(), other.parts(), one.scheme.dependences, other.scheme.dependences))

    def test_in_full(self):
        start = Report(PLAIN)
        mean = start.mean("a")
        self.check(start.mean("ab").mean("a"), mean, [(AB,), (AR,), (BR,)])
        self.check(mean, mean, [()])
        self.check(start.summed("a").over("r"), mean, [()])
        self.check(mean, start.summed("a"), [(AR,), (AB, BR)])
        self.check(mean, mean + mean, [])
        self.check(start, start - start, [])
        self.check(start.share("a", "v"), start.share("b", "v"), EITHER)
        self.check(start.share("a", "v"), start.share("a", "w"), [(AR,), (AB, BR)])
        self.check(start.share("", "v"), start.share("", "w"), [])
        total = start.summed("")
        self.check(total.times("a"), total.times("b"), EITHER)
        self.check(total.times("a"), total.times("r"), [(AR,), (AB, BR)])
        self.check(total.times("ab"), total.times("a"), [(AB,), (AR,)])
        self.check(total.times("a").times("b"), total.times("r").times("r"), [(AB, BR), (AR, BA), (AR, BR)])
        self.check(total.times("a").times("b"), total.times("ab").times("ab"), EITHER)

    def test_one_column(self):
        start = Report(Scheme("c"))
        self.check(start.mean("c"), start.summed("c"), [(("c", "r"),)])
        self.check(start.mean(""), start.mean("c").mean(""), [(("c", "r"),)])
        self.check(start.mean(""), start.summed(""), [])

    def test_lots_with_parts_in_common(self):
        # a, b and c tell each other by a circle or by a star; or each of them tells the row; or some of both.
        start = Report(Scheme("abc"))
        one = start.share("a", "v").share("a", "v").share("a", "v")
        other = start.share("a", "v").share("b", "v").share("c", "v")
        wanted = lots_by_words(one, other)
        self.check(one, other, wanted)
        self.assertEqual([len(lot) for lot in wanted], sorted(len(lot) for lot in wanted))
        self.assertEqual({len(lot) for lot in wanted}, {3, 4})
        self.assertEqual(wanted[0], (("a", "b"), ("b", "c"), ("c", "a")))
        for lot in [(("a", "r"), ("b", "r"), ("c", "r")), (("a", "b"), ("a", "c"), ("b", "a"), ("c", "a")),
                    (("a", "r"), ("b", "a"), ("c", "b"))]:
            self.assertIn(lot, wanted)

    def test_dependences_that_stand_already(self):
        for dependences, wanted in [
            ([("ab", "r")], [()]), ([("a", "b")], [()]), ([("b", "a")], [(AB,), (AR,), (BR,)]),
            ([("", "b")], [()]), ([("", "a")], [(AB,), (AR,), (BR,)]),
            ([("r", "a"), ("ab", "a")], [(AB,), (AR,), (BR,)]),
        ]:
            start = Report(Scheme("ab", dependences))
            self.check(start.mean("ab").mean("a"), start.mean("a"), wanted)
        start = Report(Scheme("ab", [("a", "b")]))
        self.check(start.share("a", "v"), start.share("b", "v"), [(BA,), (BR,)])

    def test_twenty_dependences_already(self):
        start = Report(Scheme("ab", [("ab", "a")] * 20))
        self.check(start.mean("ab").mean("a"), start.mean("a"), [(AB,), (AR,), (BR,)])
        self.check(start.share("a", "v"), start.share("b", "v"), EITHER)
        start = Report(Scheme("abc", [("ab", "c")] * 19 + [("abc", "a")]))
        for one, other in [(start.share("a", "v"), start.share("c", "v")),
                           (start.summed("").times("ab"), start.summed("").times("r")),
                           (start.share("a", "v").share("b", "w"), start.share("b", "v").share("c", "w"))]:
            self.check(one, other, lots_by_words(one, other))

    def test_two_columns_of_all_kinds(self):
        chance = random.Random(51)
        seen = {}
        schemes = [scheme for scheme in PAIRS if len(scheme.columns) < 3]
        for _ in range(300):
            one = some_report(chance, chance.choice(schemes), 4)
            other = beside(chance, one)
            wanted = lots_by_words(one, other)
            self.check(one, other, wanted)
            seen[len(wanted)] = seen.get(len(wanted), 0) + 1
        self.assertTrue({0, 1, 2, 3} <= set(seen), seen)

    def test_three_columns_of_all_kinds(self):
        chance = random.Random(52)
        schemes = [scheme for scheme in PAIRS if len(scheme.columns) == 3]
        longest = 0
        for _ in range(60):
            one = some_report(chance, chance.choice(schemes), 4)
            other = beside(chance, one)
            wanted = lots_by_words(one, other)
            self.check(one, other, wanted)
            longest = max([longest] + [len(lot) for lot in wanted])
        self.assertGreaterEqual(longest, 2)

    def test_each_lot_makes_them_alike_and_no_part_of_it_does(self):
        chance = random.Random(53)
        schemes = [scheme for scheme in PAIRS if len(scheme.columns) < 4]
        for _ in range(150):
            one = some_report(chance, chance.choice(schemes), 3)
            other = beside(chance, one)
            for lot in least_dependences(one, other):
                self.assertTrue(alike(one.under(lot), other.under(lot)))
                for at in range(len(lot)):
                    less = lot[:at] + lot[at + 1:]
                    self.assertFalse(alike(one.under(less), other.under(less)))

    def test_equal_schemes_made_of_other_dependences(self):
        first, second = Scheme("abc", [("a", "b"), ("b", "a")]), Scheme("abc", [("b", "a"), ("ac", "b"), ("a", "b")])
        one, other = Report(first).share("a", "v"), Report(second).share("c", "v")
        wanted = lots_by_words(one, other)
        self.assertGreater(len(wanted), 1)
        self.check(one, other, wanted)

    def test_a_new_list_each_time(self):
        start = Report(PLAIN)
        told = least_dependences(start, start)
        told.append(1)
        self.assertEqual(least_dependences(start, start), [()])


class Refused(unittest.TestCase):

    def test_levels(self):
        for scheme in (PLAIN, Scheme("abc"), Scheme("abcd"), Scheme("abcd", [("a", "b")])):
            start = Report(scheme)
            for one, other in itertools.permutations([start, start.mean("a"), start.mean("b"), start.mean("")], 2):
                if one.level != other.level:
                    refuses(self, BadLevel, "letters", other.level, least_dependences, one, other)
                    refuses(self, BadLevel, "letters", other.level, least_dependences, other=other, one=one)

    def test_schemes(self):
        one = Report(PLAIN).mean("a")
        for scheme in (Scheme("ab", [("b", "a")]), Scheme("abc"), Scheme("abcd"), Scheme("a")):
            other = Report(scheme).mean("a")
            refuses(self, BadLevel, "letters", "a", least_dependences, one, other)
            refuses(self, BadLevel, "letters", "a", least_dependences, other, one)

    def test_more_than_three_columns(self):
        for dependences in ((), [("a", "b")], [("", "r")]):
            start = Report(Scheme("abcd", dependences))
            for one, other in [(start, start), (start.mean("").times("a"), start.mean(""))]:
                refuses(self, TooMany, "limit", 3, least_dependences, one, other)
                refuses(self, TooMany, "limit", 3, least_dependences, other=one, one=other)

    def test_not_for_three_columns_or_many_dependences(self):
        for columns in ("abc", "bcd", "acd"):
            start = Report(Scheme(columns, [(columns, columns[0])] * 20))
            self.assertEqual(least_dependences(start, start), [()])
            refuses(self, TooMany, "limit", 20, start.under, [(columns, "r")])


if __name__ == "__main__":
    unittest.main()
