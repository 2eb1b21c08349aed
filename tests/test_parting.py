"""Tests of point [40], and what parts two reports that are not alike."""

import itertools
import random
import unittest

from meanways.errors import BadLevel, BadSet, TooMany
from meanways.forms import form, product_at
from meanways.parting import alike, parted, single_test, test as made_test
from meanways.reports import Report
from meanways.schemes import Scheme
from meanways.tables import Table
import reference
from reference import ALL_COLUMNS, dependences_of, sets_of
from some_reports import PAIRS, beside, some_report, some_scheme, some_table
from some_values import any_values, raised, refuses, same

PLAIN = Scheme("ab")


def pairs_of(scheme):
    """All pairs of sets for which there is a test."""
    closed = scheme.closed_sets()
    return [(lower, upper) for lower in closed for upper in closed
            if set(lower) <= set(upper) and lower != reference.closure(scheme, "r")]


def unlike(one, other):
    """In how many products the forms of two reports differ."""
    first, second = dict(form(one)[1]), dict(form(other)[1])
    return len([product for product in {**first, **second} if first.get(product, 0) != second.get(product, 0)])


class MadeTests(unittest.TestCase):

    def test_three_rows(self):
        scheme = Scheme("abc")
        for lower, upper, second, third in [
            ("", "", (1, 1, 1), (2, 2, 2)), ("", "b", (1, 1, 1), (2, 1, 2)), ("a", "a", (0, 1, 1), (0, 2, 2)),
            ("a", "ac", (0, 1, 1), (0, 2, 1)), ("a", "abc", (0, 1, 1), (0, 1, 1)), ("abc", "abc", (0, 0, 0), (0, 0, 0)),
        ]:
            wanted = (((0, 0, 0), 1, 1, 1), (second, 0, 1, 1), (third, 0, 3, 5))
            for told in (made_test(scheme, lower, upper), made_test(scheme=scheme, lower=lower, upper=upper)):
                self.assertIs(type(told), Table)
                self.assertTrue(same((told.columns, told.rows), ("abc", wanted)), (lower, upper))

    def test_two_rows_at_the_greatest_closed_set(self):
        scheme = Scheme("bd")
        for lower, second in (("", (1, 1)), ("b", (0, 1)), ("d", (1, 0)), ("bd", (0, 0))):
            wanted = (((0, 0), 1, 1, 1), (second, 0, 4, 6))
            self.assertTrue(same(made_test(scheme, lower, "bdr").rows, wanted))

    def test_all_of_them(self):
        for scheme in PAIRS:
            greatest = reference.closure(scheme, "r")
            for lower, upper in pairs_of(scheme):
                told = made_test(scheme, lower, upper)
                wanted = reference.test_rows(scheme.columns, greatest, lower, upper)
                self.assertTrue(same((told.columns, told.rows), (scheme.columns, wanted)))

    def test_they_keep_the_dependences(self):
        chance = random.Random(31)
        for scheme in [*PAIRS, *[some_scheme(chance) for _ in range(60)]]:
            self.assertIsNone(single_test(scheme).broken(scheme))
            for lower, upper in pairs_of(scheme):
                self.assertIsNone(made_test(scheme, lower, upper).broken(scheme))

    def test_what_factors_are_at_row_nought(self):
        for scheme in PAIRS[:12]:
            closed = scheme.closed_sets()
            for lower, upper in pairs_of(scheme):
                table = made_test(scheme, lower, upper)
                for weight, heavy in (("v", 5), ("w", 7)):
                    for one in closed:
                        wanted = heavy if set(one) <= set(lower) else 1
                        self.assertEqual(product_at((("total", weight, one, 1),), table, 0), (wanted, 1))
                for fine, coarse in itertools.product(closed, repeat=2):
                    if set(coarse) < set(fine):
                        wanted = 2 if set(fine) <= set(upper) or len(table) == 2 else 3
                        if not set(coarse) <= set(lower) or set(fine) <= set(lower):
                            wanted = 1
                        self.assertEqual(product_at((("many", fine, coarse, 1),), table, 0), (wanted, 1))

    def test_the_single_test(self):
        for columns in ALL_COLUMNS:
            scheme = Scheme(columns, [("", "r")])
            for told in (single_test(scheme), single_test(scheme=scheme)):
                self.assertIs(type(told), Table)
                self.assertTrue(same((told.columns, told.rows), (columns, (((0,) * len(columns), 1, 5, 7),))))

    def test_new_tables_that_stay(self):
        table = made_test(PLAIN, "a", "ab")
        table * table
        self.assertEqual(made_test(PLAIN, "a", "ab"), table)


class RefusedTests(unittest.TestCase):

    def check(self, wanted, scheme, lower, upper):
        refuses(self, BadSet, "letters", wanted, made_test, scheme, lower, upper)
        refuses(self, BadSet, "letters", wanted, made_test, upper=upper, lower=lower, scheme=scheme)

    def test_all_pairs_of_sets(self):
        for scheme in PAIRS:
            right = pairs_of(scheme)
            lowers = {lower for lower, _ in right}
            for lower, upper in itertools.product(sets_of(scheme.columns), repeat=2):
                if (lower, upper) in right:
                    self.assertEqual(made_test(scheme, lower, upper)[0][1], 1)
                else:
                    self.check(upper if lower in lowers else lower, scheme, lower, upper)

    def test_any_value(self):
        for value in [*any_values(), "ba", "c", "ra", PLAIN, Report(PLAIN), Table("ab", [])]:
            if type(value) is not str or value not in sets_of("ab"):
                self.check(value, PLAIN, value, "ab")
                self.check(value, PLAIN, "a", value)

    def test_all_of_lower_ahead_of_upper(self):
        scheme = Scheme("abc", [("a", "b")])
        for lower in ("a", "abcr", "ba", None, "r", "d", ["b"]):
            for upper in ("a", "ba", None, "c", "abcr", lower):
                self.check(lower, scheme, lower, upper)
        for upper in ("a", "c", "", "r", "bca", "ab "):
            self.check(upper, scheme, "b", upper)

    def test_only_the_greatest_one_is_closed(self):
        scheme = Scheme("ab", [("", "r")])
        for lower, upper in itertools.product(sets_of("ab"), repeat=2):
            self.check(lower, scheme, lower, upper)


class Alike(unittest.TestCase):

    def check(self, one, other, wanted):
        self.assertIs(alike(one, other), wanted, (one.parts(), other.parts()))
        self.assertIs(alike(one=one, other=other), wanted)
        self.assertIs(alike(other, one), wanted)

    def test_in_full(self):
        start = Report(PLAIN)
        mean, summed = start.mean("a"), start.summed("a")
        self.check(start, start, True)
        self.check(start.mean("ab").mean("a"), mean, False)
        self.check(start.mean("ab").mean("a"), start.mean("ab").mean("a"), True)
        self.check(summed.over("r"), mean, True)
        self.check(mean.times("r"), summed, True)
        self.check(mean.times("b"), summed, False)
        self.check(start.weighed("ab", "v").weighed("a", "v"), start.weighed("a", "v"), True)
        self.check(start.weighed("ab", "v").weighed("a", "v"), start.weighed("a", "w"), False)
        self.check(start.share("a", "v").summed("a"), start.weighed("a", "v"), True)
        self.check(start.summed("ab").summed("a"), summed, True)
        self.check(mean + mean, mean, False)
        self.check(mean - mean, summed - summed, True)
        self.check(mean + summed, summed + mean, True)
        self.check(mean - summed, summed - mean, False)

    def test_by_dependences(self):
        for dependences, wanted in (([("ab", "r")], True), ([("a", "b")], True), ([("b", "r")], True),
                                    ([("a", "r")], True), ([("b", "a")], False), ([("r", "b")], False)):
            start = Report(Scheme("ab", dependences))
            self.check(start.mean("ab").mean("a"), start.mean("a"), wanted)

    def test_exactly_if_the_forms_are_equal(self):
        chance = random.Random(32)
        seen = {True: 0, False: 0}
        for _ in range(600):
            one = some_report(chance, chance.choice(PAIRS[:9]), 3)
            other = beside(chance, one)
            wanted = reference.form(one.scheme, one.parts()) == reference.form(other.scheme, other.parts())
            self.check(one, other, wanted)
            seen[wanted] += 1
        self.assertGreater(min(seen.values()), 50)

    def test_alike_ones_tell_the_same(self):
        chance = random.Random(33)
        for _ in range(300):
            one = some_report(chance, chance.choice(PAIRS), 3)
            other = beside(chance, one)
            if alike(one, other):
                for _ in range(3):
                    table = some_table(chance, one.scheme)
                    self.assertEqual(one(table), other(table))

    def test_further_dependences_never_make_them_unlike(self):
        chance = random.Random(34)
        seen = 0
        for _ in range(400):
            one = some_report(chance, chance.choice(PAIRS), 3)
            other = beside(chance, one)
            if alike(one, other):
                seen += 1
                for _ in range(4):
                    more = chance.sample(dependences_of(one.scheme.columns), chance.randint(1, 3))
                    self.check(one.under(more), other.under(more), True)
        self.assertGreater(seen, 50)

    def test_each_single_dependence_leaves_them_alike(self):
        start = Report(Scheme("abc"))
        for one, other in [
            (start.mean("ab").times("r").summed("a").over("r"), start.mean("a")),
            (start.weighed("ab", "v").weighed("a", "v"), start.weighed("a", "v")),
            (start.summed("ac").over("b").times("b"), start.summed("abc").summed("ac")),
        ]:
            self.check(one, other, True)
            for more in dependences_of("abc"):
                self.check(one.under([more]), other.under([more]), True)

    def test_equal_schemes_made_of_other_dependences(self):
        first, second = Scheme("ab", [("a", "b"), ("b", "r")]), Scheme("ab", [("b", "a"), ("a", "r")])
        self.check(Report(first).mean("a"), Report(second).mean("b"), True)
        self.check(Report(first).mean(""), Report(second).summed(""), False)


class Refused(unittest.TestCase):

    def test_unequal_levels(self):
        for scheme in PAIRS:
            for first, second in itertools.product(sets_of(scheme.columns), repeat=2):
                one, other = Report(scheme).mean(first), Report(scheme).summed(second)
                if one.level != other.level:
                    for work in (alike, parted):
                        refuses(self, BadLevel, "letters", other.level, work, one, other)
                        refuses(self, BadLevel, "letters", other.level, work, other=other, one=one)

    def test_unequal_schemes(self):
        one = Report(PLAIN).mean("a")
        for scheme in (Scheme("ab", [("a", "b")]), Scheme("ab", [("b", "r")]), Scheme("a"), Scheme("abc"),
                       Scheme("ac")):
            other = Report(scheme).mean("a")
            for work in (alike, parted):
                refuses(self, BadLevel, "letters", other.level, work, one, other)
                refuses(self, BadLevel, "letters", "a", work, other, one)

    def test_the_level_ahead_of_too_many(self):
        one, other = shares(Scheme("abcd"), (0, 1, 2)), shares(Scheme("abcd"), (3, 4, 5)).mean("")
        refuses(self, BadLevel, "letters", "", parted, one, other)


SHARES = ("", "a", "b", "c", "ab", "ac", "bc", "abc")
COUNTS = ("", "b", "c", "d", "bc", "bd", "cd", "bcd")


def shares(scheme, numbers):
    """A report whose form has a term of its own for each of these numbers from 0 to 7."""
    found = [Report(scheme).share(SHARES[at], "vw"[at & 1]) for at in numbers]
    return joined(found)


def counts(scheme, numbers):
    """The same of another level, by counts."""
    return joined([Report(scheme).summed("a").times(COUNTS[at]) for at in numbers])


def joined(reports):
    found = reports[0]
    for more in reports[1:]:
        found = found + more
    return found


class Parted(unittest.TestCase):

    def check(self, one, other):
        """Whether they are told apart as point [2] promises; in how many products they differ."""
        number = unlike(one, other)
        told = parted(one, other)
        if number == 0:
            self.assertIsNone(told)
            return number
        self.assertIs(type(told), tuple)
        table, name = told
        self.assertIs(type(table), Table)
        self.assertIsNone(table.broken(one.scheme))
        self.assertTrue(reference.keeps_all(one.scheme, table.rows))
        self.assertLessEqual(len(table), 3 ** (number - 1))
        first = reference.named(one.scheme, one.parts(), table)
        second = reference.named(other.scheme, other.parts(), table)
        self.assertNotEqual(first[name], second[name], (one.parts(), other.parts()))
        self.assertNotEqual(one(table)[name], other(table)[name])
        return number

    def test_alike_ones(self):
        start = Report(PLAIN)
        for one, other in [(start, start), (start.summed("a").over("r"), start.mean("a")),
                           (start - start, start.times("a") - start), (start + start - start, start)]:
            self.assertIsNone(parted(one, other))
            self.assertIsNone(parted(one=one, other=other))

    def test_one_product(self):
        for scheme in PAIRS:
            start = Report(scheme)
            none = start.mean("") - start.mean("")
            for one, other in ((start, start + start), (start - start, start), (start.mean(""), none)):
                self.assertEqual(self.check(one, other), 1)
                self.assertEqual(len(parted(one, other)[0]), 1)

    def test_two_products(self):
        start = Report(PLAIN)
        for one, other in [
            (start.mean("ab").mean("a"), start.mean("a")), (start.mean("a"), start.summed("a")),
            (start.weighed("a", "v"), start.weighed("a", "w")), (start.weighed("", "v"), start.mean("")),
            (start.summed("a").times("b"), start.summed("a").times("r")), (start.share("a", "v"), start),
            (start.mean("b").times("a"), start.mean("b").over("a")), (start.share("", "v"), start.share("a", "v")),
        ]:
            self.assertEqual(self.check(one, other), 2)
            self.assertEqual(self.check(other, one), 2)
            self.assertEqual(parted(one=one, other=other)[1], parted(one, other)[1])

    def test_up_to_five_products(self):
        scheme = Scheme("abcd")
        for made, most in ((shares, 4), (counts, 3)):
            for first, second in itertools.product(range(1, most + 1), repeat=2):
                one, other = made(scheme, range(first)), made(scheme, range(7, 7 - second, -1))
                self.assertEqual(unlike(one, other), first + second)
                if first + second <= 5:
                    self.assertEqual(self.check(one, other), first + second)
                else:
                    refuses(self, TooMany, "limit", 5, parted, one, other)
                    refuses(self, TooMany, "limit", 5, parted, one=other, other=one)

    def test_five_and_six_products(self):
        scheme = Scheme("abc")
        for first, second, number in (((0, 1, 2), (3, 4), 5), ((0, 1, 2), (3, 4, 5), 6), ((0, 1, 2, 3), (4, 5), 6),
                                      ((0, 1, 2, 3), (4,), 5), ((0, 1, 2, 3), (3, 4, 5), 5), ((0, 1), (2, 3, 4), 5)):
            one, other = shares(scheme, first), shares(scheme, second)
            self.assertEqual(unlike(one, other), number)
            if number == 5:
                self.check(one, other)
            else:
                refuses(self, TooMany, "limit", 5, parted, one, other)

    def test_too_many_is_not_for_terms_that_both_have(self):
        scheme = Scheme("abcd")
        one, other = shares(scheme, (0, 1, 2, 3)), shares(scheme, (0, 1, 4, 5))
        self.assertEqual(len({**dict(form(one)[1]), **dict(form(other)[1])}), 6)
        self.assertEqual(self.check(one, other), 4)
        self.assertEqual(self.check(shares(scheme, (0, 1, 2, 3)), shares(scheme, (3, 2, 1))), 1)
        self.assertEqual(self.check(shares(scheme, (0, 1, 2, 3)), shares(scheme, (3, 1, 2, 0))), 0)

    def test_polynomials_that_cancel_out_at_small_counts(self):
        scheme = Scheme("a")
        start = Report(scheme).summed("")
        twice = start.times("a")
        for one, other, number in [
            (twice, start, 2), (twice, start + start, 2), (twice + start, start + start + start, 2),
            (twice.times("a") + start + start, twice + twice + twice, 3),
            (twice.times("a") + start, twice + twice, 3),
            (twice.times("a") - twice, twice - start, 3),
            ((twice - start).times("a").times("a").times("a"), twice - start, 4),
            ((twice - start - start).times("a").times("a"), twice - start - start, 4),
        ]:
            self.assertEqual(self.check(one, other), number)
            self.assertEqual(self.check(other, one), number)

    def test_small_schemes_of_all_kinds(self):
        chance = random.Random(35)
        seen = {}
        for _ in range(1500):
            one = some_report(chance, chance.choice(PAIRS), 4)
            other = beside(chance, one)
            number = unlike(one, other)
            if number > 5:
                raised(self, TooMany, parted, one, other)
            else:
                self.assertEqual(self.check(one, other), number)
            seen[number] = seen.get(number, 0) + 1
        self.assertEqual(sorted(seen)[:4], [0, 1, 2, 3])

    def test_many_products(self):
        chance = random.Random(36)
        seen = {}
        for _ in range(60):
            scheme = chance.choice(PAIRS)
            found = []
            for _ in range(2):
                base = Report(scheme).summed(chance.choice(sets_of(scheme.columns[0])[:2]))
                found.append(self.several_terms(chance, base))
            one, other = found
            if one.level == other.level:
                number = unlike(one, other)
                if number > 5:
                    refuses(self, TooMany, "limit", 5, parted, one, other)
                else:
                    self.check(one, other)
                seen[number] = seen.get(number, 0) + 1
        self.assertTrue({3, 4, 5} <= set(seen), seen)

    def several_terms(self, chance, base):
        """A sum or a difference of up to three reports, each one step behind the given one."""
        letters = sets_of(base.scheme.columns)
        found = getattr(base, chance.choice(("times", "over")))(chance.choice(letters))
        for _ in range(chance.randint(1, 2)):
            more = getattr(base, chance.choice(("times", "over")))(chance.choice(letters))
            found = found + more if chance.random() < 0.5 else found - more
        return found

    def test_equal_ones_for_equal_reports(self):
        first, second = Scheme("abc", [("a", "b"), ("b", "a")]), Scheme("abc", [("b", "a"), ("a", "b"), ("ab", "a")])
        self.assertEqual(first, second)
        told = [parted(Report(scheme).mean("ac").mean("a"), Report(scheme).mean("a")) for scheme in (first, second)]
        self.assertEqual(told[0], told[1])
        self.assertEqual(parted(Report(first).mean("a"), Report(second).summed("b")),
                         parted(Report(second).mean("a"), Report(first).summed("b")))

    def test_the_reports_stay(self):
        one, other = Report(PLAIN).mean("ab").mean("a"), Report(PLAIN).mean("a")
        parted(one, other)
        alike(one, other)
        self.assertEqual((one, other), (Report(PLAIN).mean("ab").mean("a"), Report(PLAIN).mean("a")))


if __name__ == "__main__":
    unittest.main()
