"""Forms: factors, products and terms of reports, what they are at rows, and what reports tell by them."""

import itertools
import random
import unittest
from fractions import Fraction

from meanways.errors import NoPlace, NoTable, NotKept
from meanways.exact import is_fraction
from meanways.forms import by_form, counted, form, product_at
from meanways.reports import Report
from meanways.schemes import Scheme
from meanways.tables import Table
import reference
from reference import ALL_COLUMNS, sets_of
from some_reports import PAIRS, sets_within, some_report, some_row, some_scheme, some_table
from some_values import any_values, raised, refuses, same

PLAIN = Scheme("ab")
FOUR = Table("ab", [((0, 0), 6, 1, 1), ((0, 0), 6, 2, 1), ((0, 1), 9, 1, 3), ((1, 1), -4, 5, 2)])


def many(fine, coarse, power):
    return ("many", fine, coarse, power)


def total(weight, letters, power):
    return ("total", weight, letters, power)


class Forms(unittest.TestCase):

    def check(self, report, wanted):
        self.assertTrue(same(form(report), wanted), (report.parts(), form(report)))
        self.assertTrue(same(form(report=report), wanted))

    def test_the_start(self):
        for columns in ALL_COLUMNS:
            self.check(Report(Scheme(columns)), (columns + "r", (((), 1),)))

    def test_each_kind_of_step(self):
        start, middle = Report(PLAIN), Report(PLAIN).summed("a")
        for report, wanted in [
            (start.summed("a"), ("a", (((), 1),))),
            (start.mean("a"), ("a", (((many("abr", "a", -1),), 1),))),
            (start.weighed("a", "v"), ("a", (((total("v", "a", -1), total("v", "abr", 1)), 1),))),
            (start.weighed("", "w"), ("", (((total("w", "", -1), total("w", "abr", 1)), 1),))),
            (start.share("a", "v"), ("abr", (((total("v", "a", -1), total("v", "abr", 1)), 1),))),
            (middle.share("", "w"), ("a", (((total("w", "", -1), total("w", "a", 1)), 1),))),
            (middle.times("b"), ("a", (((many("ab", "a", 1),), 1),))),
            (middle.times("r"), ("a", (((many("abr", "a", 1),), 1),))),
            (middle.over("b"), ("a", (((many("ab", "a", -1),), 1),))),
            (middle.mean(""), ("", (((many("a", "", -1),), 1),))),
            (start + start, ("abr", (((), 2),))),
            (start - start, ("abr", ())),
            (middle + start.mean("a"), ("a", (((), 1), ((many("abr", "a", -1),), 1)))),
            (middle - start.mean("a"), ("a", (((), 1), ((many("abr", "a", -1),), -1)))),
        ]:
            self.check(report, wanted)

    def test_ways_on_top_of_each_other(self):
        start = Report(PLAIN)
        self.check(start.mean("ab").mean("a").mean(""), ("", (
            ((many("a", "", -1), many("ab", "a", -1), many("abr", "ab", -1)), 1),)))
        self.check(start.weighed("a", "v").weighed("", "w"), ("", (
            ((total("v", "a", -1), total("v", "abr", 1), total("w", "", -1), total("w", "a", 1)), 1),)))
        self.check(start.weighed("a", "v").weighed("", "v"), ("", (
            ((total("v", "", -1), total("v", "abr", 1)), 1),)))

    def test_closures_stand_in_the_factors(self):
        scheme = Scheme("abc", [("a", "b")])
        self.check(Report(scheme).mean("a"), ("ab", (((many("abcr", "ab", -1),), 1),)))
        self.check(Report(scheme).mean("b").times("a"), ("b", (
            ((many("ab", "b", 1), many("abcr", "b", -1)), 1),)))
        self.check(Report(scheme).mean("a").weighed("b", "w"), ("b", (
            ((many("abcr", "ab", -1), total("w", "ab", 1), total("w", "b", -1)), 1),)))
        keyed = Scheme("ab", [("a", "r")])
        self.check(Report(keyed).mean("b").over("a"), ("b", (((many("abr", "b", -2),), 1),)))
        self.check(Report(keyed).mean("a"), ("abr", (((), 1),)))

    def test_the_set_and_the_level_together(self):
        scheme = Scheme("abc", [("bc", "r")])
        self.check(Report(scheme).summed("c").times("b"), ("c", (((many("abcr", "c", 1),), 1),)))
        self.check(Report(scheme).summed("c").times("a"), ("c", (((many("ac", "c", 1),), 1),)))
        self.check(Report(Scheme("abc")).summed("b").times("a"), ("b", (((many("ab", "b", 1),), 1),)))
        self.check(Report(Scheme("abc")).summed("b").over("ac"), ("b", (((many("abc", "b", -1),), 1),)))

    def test_powers_of_like_factors_are_added(self):
        middle = Report(PLAIN).summed("a")
        self.check(middle.times("b").times("ab").times("b"), ("a", (((many("ab", "a", 3),), 1),)))
        self.check(middle.over("b").over("b"), ("a", (((many("ab", "a", -2),), 1),)))
        self.check(middle.share("", "v").share("", "v"), ("a", (((total("v", "", -2), total("v", "a", 2)), 1),)))
        self.check(middle.mean("").times("a").times("a"), ("", (((many("a", "", 1),), 1),)))

    def test_powers_of_nought_are_left_out(self):
        middle = Report(PLAIN).summed("a")
        self.check(middle.times("b").over("b"), ("a", (((), 1),)))
        self.check(middle.over("r").times("b").times("r"), ("a", (((many("ab", "a", 1),), 1),)))
        self.check(Report(PLAIN).mean("a").times("r"), ("a", (((), 1),)))
        self.check(middle.weighed("a", "v"), ("a", (((), 1),)))
        self.check(middle.share("a", "w"), ("a", (((), 1),)))

    def test_no_many_of_a_set_with_itself(self):
        for scheme in PAIRS:
            for letters in sets_of(scheme.columns):
                report = Report(scheme).summed(letters)
                for told in (report.mean(letters), report.times(letters), report.over(letters), report.times(""),
                             report.mean(report.level), Report(scheme).times(letters), Report(scheme).mean("r")):
                    self.check(told, (told.level, (((), 1),)))

    def test_numbers_of_equal_products(self):
        start, middle, mean = Report(PLAIN), Report(PLAIN).summed("a"), Report(PLAIN).mean("a")
        product = (many("abr", "a", -1),)
        self.check(mean + mean, ("a", ((product, 2),)))
        self.check(mean + mean - mean, ("a", ((product, 1),)))
        self.check(mean - (mean + mean), ("a", ((product, -1),)))
        self.check(middle - mean + mean, ("a", (((), 1),)))
        self.check(mean - mean, ("a", ()))
        self.check((mean - mean) + middle, ("a", (((), 1),)))
        self.check((mean - mean).times("b"), ("a", ()))
        self.check((middle - mean) - (middle + mean), ("a", ((product, -2),)))
        self.check(start.mean("ab").mean("a") + mean.times("r").over("r"), ("a", (
            ((many("ab", "a", -1), many("abr", "ab", -1)), 1), (product, 1))))
        self.check((middle + mean).times("r"), ("a", (((), 1), ((many("abr", "a", 1),), 1))))

    def test_a_spread(self):
        chance = random.Random(21)
        for _ in range(1500):
            report = some_report(chance, some_scheme(chance), 9)
            self.check(report, reference.form(report.scheme, report.parts()))

    def test_they_are_forms(self):
        chance = random.Random(22)
        for _ in range(300):
            report = some_report(chance, chance.choice(PAIRS), 9)
            closed = report.scheme.closed_sets()
            level, terms = form(report)
            self.assertIn(level, closed)
            self.assertEqual(list(terms), sorted(terms))
            self.assertEqual(len({product for product, _ in terms}), len(terms))
            for product, times in terms:
                self.assertIs(type(times), int)
                self.assertNotEqual(times, 0)
                self.assertEqual(list(product), sorted(product))
                self.assertEqual(len({factor[:3] for factor in product}), len(product))
                for kind, first, second, power in product:
                    self.assertNotEqual(power, 0)
                    self.assertIn(second, closed)
                    self.assertIn(first, closed if kind == "many" else ("v", "w"))
                    self.assertTrue(kind == "total" or set(second) < set(first))

    def test_equal_schemes_made_of_other_dependences(self):
        first, second = Scheme("ab", [("a", "b"), ("b", "r")]), Scheme("ab", [("b", "a"), ("a", "r")])
        self.assertEqual(form(Report(first).mean("").times("a")), form(Report(second).mean("").times("a")))

    def test_the_report_stays(self):
        report = Report(PLAIN).mean("a")
        form(report)
        self.assertEqual(report, Report(PLAIN).mean("a"))


class ProductAt(unittest.TestCase):

    def check(self, product, table, at, wanted):
        for told in (product_at(product, table, at), product_at(product=product, table=table, at=at)):
            self.assertTrue(same(told, wanted), (product, at, told))
            self.assertTrue(is_fraction(told))

    def test_the_empty_product(self):
        for at in range(4):
            self.check((), FOUR, at, (1, 1))

    def test_single_factors(self):
        for factor, wanted in [
            (many("ab", "a", 1), [(2, 1), (2, 1), (2, 1), (1, 1)]),
            (many("ab", "", 1), [(3, 1)] * 4),
            (many("abr", "a", -1), [(1, 3), (1, 3), (1, 3), (1, 1)]),
            (many("abr", "ab", 1), [(2, 1), (2, 1), (1, 1), (1, 1)]),
            (many("abr", "b", 2), [(4, 1)] * 4),
            (many("b", "", -3), [(1, 8)] * 4),
            (total("v", "", 1), [(9, 1)] * 4),
            (total("w", "", 1), [(7, 1)] * 4),
            (total("v", "a", -1), [(1, 4), (1, 4), (1, 4), (1, 5)]),
            (total("v", "abr", 2), [(1, 1), (4, 1), (1, 1), (25, 1)]),
            (total("w", "b", 1), [(2, 1), (2, 1), (5, 1), (5, 1)]),
        ]:
            for at in range(4):
                self.check((factor,), FOUR, at, wanted[at])

    def test_more_factors_in_least_numbers(self):
        product = (many("ab", "a", -1), total("v", "a", 1), total("v", "abr", -2))
        for at, wanted in enumerate([(2, 1), (1, 2), (2, 1), (1, 5)]):
            self.check(product, FOUR, at, wanted)

    def test_great_powers(self):
        self.check((many("abr", "", 40),), FOUR, 0, (4 ** 40, 1))
        self.check((total("v", "", -70),), FOUR, 1, (1, 9 ** 70))

    def test_r_alone_names_the_row_in_no_dependence(self):
        table = Table("a", [((0,), 1, 2, 3)] * 3)
        self.check((many("ar", "a", 1), total("w", "ar", 1)), table, 2, (9, 1))

    def test_a_spread(self):
        chance = random.Random(23)
        for _ in range(300):
            scheme = some_scheme(chance)
            table = some_table(chance, scheme)
            for product, _ in form(some_report(chance, scheme, 9))[1]:
                for at in range(len(table)):
                    self.check(product, table, at, reference.pair(reference.product_at(product, table, at)))

    def test_tables_that_keep_no_dependence(self):
        chance = random.Random(24)
        for _ in range(100):
            scheme = some_scheme(chance)
            table = Table(scheme.columns, [some_row(chance, scheme.columns) for _ in range(6)])
            for product, _ in form(some_report(chance, scheme, 9))[1]:
                self.check(product, table, 3, reference.pair(reference.product_at(product, table, 3)))

    def test_no_place(self):
        for product in ((), (many("ab", "a", 1),)):
            for value in [*any_values(), 4, -4, FOUR]:
                if type(value) is not int or not 0 <= value < 4:
                    refuses(self, NoPlace, "place", value, product_at, product, FOUR, value)
                    refuses(self, NoPlace, "place", value, product_at, at=value, table=FOUR, product=product)
            refuses(self, NoPlace, "place", 0, product_at, product, Table("ab", []), 0)

    def test_at_a_table_product_it_is_the_product_of_both(self):
        chance = random.Random(25)
        for _ in range(60):
            scheme = some_scheme(chance)
            one, two = some_table(chance, scheme, 4), some_table(chance, scheme, 4)
            for product, _ in form(some_report(chance, scheme, 9))[1]:
                for at, beside in itertools.product(range(len(one)), range(len(two))):
                    wanted = reference.product_at(product, one, at) * reference.product_at(product, two, beside)
                    self.check(product, one * two, at * len(two) + beside, reference.pair(wanted))


class Counted(unittest.TestCase):

    def check(self, report, table, at, wanted):
        for told in (counted(report, table, at), counted(report=report, table=table, at=at)):
            self.assertTrue(same(told, wanted), (report.parts(), at, told))

    def test_in_full(self):
        start = Report(PLAIN)
        for report, wanted in [
            (start, [(1, 1)] * 4),
            (start - start, [(0, 1)] * 4),
            (start + start + start, [(3, 1)] * 4),
            (start.mean("a"), [(1, 3), (1, 3), (1, 3), (1, 1)]),
            (start.mean("ab").mean("a"), [(1, 4), (1, 4), (1, 2), (1, 1)]),
            (start.mean("ab").mean("a") - start.mean("a"), [(-1, 12), (-1, 12), (1, 6), (0, 1)]),
            (start.weighed("", "v"), [(1, 9), (2, 9), (1, 9), (5, 9)]),
            (start.summed("a").times("b"), [(2, 1), (2, 1), (2, 1), (1, 1)]),
        ]:
            for at in range(4):
                self.check(report, FOUR, at, wanted[at])

    def test_a_spread(self):
        chance = random.Random(26)
        for _ in range(200):
            scheme = some_scheme(chance)
            report, table = some_report(chance, scheme), some_table(chance, scheme)
            for at in range(len(table)):
                wanted = reference.counted(reference.form(scheme, report.parts()), table, at)
                self.check(report, table, at, reference.pair(wanted))

    def test_what_a_report_tells_is_the_sum_over_the_rows(self):
        chance = random.Random(27)
        for _ in range(200):
            scheme = some_scheme(chance)
            report, table = some_report(chance, scheme), some_table(chance, scheme)
            wanted = {}
            for at, row in enumerate(table.rows):
                name = reference.name(scheme.columns, table.rows, report.level, at)
                wanted[name] = wanted.get(name, 0) + row[1] * Fraction(*counted(report, table, at))
            self.assertEqual(report(table), {name: reference.pair(wanted[name]) for name in wanted})

    def test_no_table_then_not_kept_then_no_place(self):
        scheme = Scheme("ab", [("r", "a"), ("a", "b")])
        report = Report(scheme).mean("a")
        for value in [*any_values(), FOUR.rows, Table("abc", []), Table("bc", FOUR.rows), report]:
            for at in (0, 4, None):
                raised(self, NoTable, counted, report, value, at)
                raised(self, NoTable, counted, at=at, table=value, report=report)
        for at in (0, 4, -1, None):
            refuses(self, NotKept, "at", 1, counted, report, FOUR, at)
        kept = Table("ab", FOUR.rows[2:])
        for value in [*any_values(), 2, -2]:
            if type(value) is not int or not 0 <= value < 2:
                refuses(self, NoPlace, "place", value, counted, report, kept, value)
        refuses(self, NoPlace, "place", 0, counted, report, Table("ab", []), 0)
        self.assertEqual(kept, Table("ab", FOUR.rows[2:]))


class ByForm(unittest.TestCase):

    def check(self, report, table):
        wanted = reference.named(report.scheme, report.parts(), table)
        for told in (by_form(report, table), by_form(report=report, table=table)):
            self.assertTrue(same(told, wanted), (report.parts(), table.rows))
        self.assertTrue(same(report(table), wanted), (report.parts(), table.rows))

    def test_in_full(self):
        start = Report(PLAIN)
        self.assertTrue(same(by_form(start.mean("ab").mean("a"), FOUR), {(0,): (15, 2), (1,): (-4, 1)}))
        self.assertTrue(same(by_form(start.summed(""), FOUR), {(): (17, 1)}))
        self.assertTrue(same(by_form(start - start, FOUR), {
            (0, 0, 0): (0, 1), (0, 0, 1): (0, 1), (0, 1, 2): (0, 1), (1, 1, 3): (0, 1)}))
        self.assertTrue(same(by_form(start.mean("a"), Table("ab", [])), {}))

    def test_each_step_behind_each_level(self):
        chance = random.Random(28)
        for scheme in PAIRS:
            table = some_table(chance, scheme)
            for letters in sets_of(scheme.columns):
                report = Report(scheme).mean(letters)
                for more in sets_within(scheme, report.level):
                    self.check(report.weighed(more, "v"), table)
                    self.check(report.share(more, "w"), table)
                    self.check(report.summed(more), table)
                    self.check(report.mean(more), table)

    def test_a_spread(self):
        chance = random.Random(29)
        for _ in range(400):
            scheme = some_scheme(chance)
            self.check(some_report(chance, scheme, 9), some_table(chance, scheme))

    def test_names_ascending_and_a_new_dict(self):
        report = Report(Scheme("c")).mean("c")
        table = Table("c", [((10,), 1, 1, 1), ((9,), 2, 1, 1), ((2,), 3, 1, 1), ((10,), 4, 1, 1)])
        first = by_form(report, table)
        self.assertEqual(list(first), [(2,), (9,), (10,)])
        first.clear()
        self.assertEqual(by_form(report, table), {(2,): (3, 1), (9,): (2, 1), (10,): (5, 2)})

    def test_no_table_then_not_kept(self):
        scheme = Scheme("ab", [("r", "a"), ("a", "b")])
        for report in (Report(scheme), Report(scheme).mean("")):
            for value in [*any_values(), FOUR.rows, Table("a", []), Table("bc", FOUR.rows), report]:
                raised(self, NoTable, by_form, report, value)
                raised(self, NoTable, by_form, table=value, report=report)
            refuses(self, NotKept, "at", 1, by_form, report, FOUR)


if __name__ == "__main__":
    unittest.main()
