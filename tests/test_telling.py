"""Tests of a scheme in their order, products told back, and lots of tables that tell reports apart."""

import itertools
import random
import unittest
from fractions import Fraction

from meanways.errors import BadLevel, NoProduct, NoTable, NotKept
from meanways.forms import form, product_at
from meanways.parting import single_test, test as made_test
from meanways.reports import Report
from meanways.schemes import Scheme
from meanways.tables import Table
from meanways.telling import telling_lots, tests, told_back
import lattices
import reference
from some_reports import PAIRS, beside, some_report, some_scheme, some_table
from some_values import any_values, raised, refuses, same

PLAIN = Scheme("ab")
HALF, ONE, TWO = (1, 2), (1, 1), (2, 1)


def answers_of(scheme, product):
    return [product_at(product, table, 0) for table in tests(scheme)]


class TestsOfSchemes(unittest.TestCase):

    def check(self, scheme, wanted):
        for told in (tests(scheme), tests(scheme=scheme)):
            self.assertIs(type(told), list)
            self.assertTrue(all(type(table) is Table for table in told))
            self.assertEqual([table.columns for table in told], [scheme.columns] * len(told))
            self.assertTrue(same([table.rows for table in told], wanted))

    def test_in_full(self):
        zero = (0,)
        self.check(Scheme("a"), [
            ((zero, 1, 5, 7),),
            ((zero, 1, 1, 1), ((1,), 0, 1, 1), ((1,), 0, 3, 5)),
            ((zero, 1, 1, 1), ((1,), 0, 4, 6)),
            ((zero, 1, 1, 1), (zero, 0, 4, 6)),
        ])
        self.check(Scheme("a", [("a", "r")]), [((zero, 1, 5, 7),), ((zero, 1, 1, 1), ((1,), 0, 4, 6))])
        self.check(Scheme("a", [("", "r")]), [((zero, 1, 5, 7),)])
        self.check(Scheme("a", [("", "a")]), [((zero, 1, 5, 7),), ((zero, 1, 1, 1), (zero, 0, 4, 6))])

    def test_the_order(self):
        wanted = [("", "a"), ("", "b"), ("", "ab"), ("", "abr"), ("a", "ab"), ("a", "abr"), ("b", "ab"), ("b", "abr"),
                  ("ab", "abr")]
        self.assertEqual(tests(PLAIN), [single_test(PLAIN)] + [made_test(PLAIN, *pair) for pair in wanted])
        scheme = Scheme("abc", [("a", "c"), ("b", "c")])
        wanted = [("", "c"), ("", "ac"), ("", "bc"), ("", "abc"), ("", "abcr"), ("c", "ac"), ("c", "bc"), ("c", "abc"),
                  ("c", "abcr"), ("ac", "abc"), ("ac", "abcr"), ("bc", "abc"), ("bc", "abcr"), ("abc", "abcr")]
        self.assertEqual(tests(scheme), [single_test(scheme)] + [made_test(scheme, *pair) for pair in wanted])

    def test_all_kinds_of_schemes(self):
        chance = random.Random(42)
        for scheme in PAIRS + [some_scheme(chance) for _ in range(60)]:
            self.check(scheme, reference.tests_of(scheme)[1])

    def test_how_many(self):
        self.assertEqual([len(tests(Scheme(columns))) for columns in ("a", "ab", "abc", "abcd")], [4, 10, 28, 82])

    def test_they_keep_the_dependences(self):
        for scheme in PAIRS:
            self.assertTrue(all(table.broken(scheme) is None for table in tests(scheme)))

    def test_a_new_list_each_time(self):
        told = tests(PLAIN)
        told.clear()
        self.assertEqual(len(tests(PLAIN)), 10)

    def test_equal_schemes(self):
        first, second = Scheme("abc", [("a", "b"), ("b", "c")]), Scheme("abc", [("b", "c"), ("a", "b"), ("a", "c")])
        self.assertEqual(first, second)
        self.assertEqual(tests(first), tests(second))


class ToldBack(unittest.TestCase):

    def check(self, scheme, product, answers=None):
        if answers is None:
            answers = answers_of(scheme, product)
        for given in (answers, tuple(answers)):
            before = list(given)
            for told in (told_back(scheme, given), told_back(scheme=scheme, answers=given)):
                self.assertTrue(same(told, product), (told, product))
            self.assertTrue(same(list(given), before))

    def test_in_full(self):
        scheme = Scheme("a")
        self.check(scheme, (), [ONE, ONE, ONE, ONE])
        self.check(scheme, (("many", "ar", "a", -1),), [ONE, ONE, ONE, HALF])
        self.check(scheme, (("many", "a", "", 1),), [ONE, TWO, TWO, ONE])
        self.check(scheme, (("many", "ar", "", 1),), [ONE, (3, 1), TWO, TWO])
        self.check(scheme, (("total", "v", "", 2),), [(25, 1), (25, 1), (25, 1), (25, 1)])
        self.check(scheme, (("total", "w", "a", -1),), [(1, 7), ONE, ONE, (1, 7)])
        self.check(scheme, (("total", "v", "ar", 1),), [(5, 1), ONE, ONE, ONE])
        self.check(scheme, (("many", "a", "", 1), ("many", "ar", "", -2), ("total", "v", "", 1),
                            ("total", "v", "ar", -1), ("total", "w", "a", 3)),
                   [(343, 1), (10, 9), (5, 2), (1715, 4)])

    def test_one_closed_set_alone(self):
        scheme = Scheme("ab", [("", "r")])
        self.check(scheme, (), [ONE])
        self.check(scheme, (("total", "v", "abr", 3), ("total", "w", "abr", -2)), [(125, 49)])

    def test_single_factors_of_all_kinds(self):
        for scheme in PAIRS:
            greatest, closed = reference.closure(scheme, "r"), scheme.closed_sets()
            factors = [("many", fine, coarse) for fine in closed for coarse in closed if set(coarse) < set(fine)]
            factors += [("total", weight, letters) for weight in "vw" for letters in closed]
            self.assertIn(("total", "w", greatest), factors)
            for at, factor in enumerate(factors):
                self.check(scheme, (factor + ((-40, -1, 1, 2, 9)[at % 5],),))

    def test_several_factors(self):
        chance = random.Random(43)
        for scheme in PAIRS * 4:
            answers = lattices.Answers(scheme) if len(scheme.columns) < 4 else None
            closed = scheme.closed_sets()
            factors = [("many", fine, coarse) for fine in closed for coarse in closed if set(coarse) < set(fine)]
            factors += [("total", weight, letters) for weight in "vw" for letters in closed]
            for many in (2, 3, 5, len(factors)):
                some = chance.sample(factors, min(many, len(factors)))
                product = tuple(sorted(factor + (chance.choice([*range(-40, 0), *range(1, 10)]),) for factor in some))
                self.check(scheme, product)
                if answers:
                    self.check(scheme, product, lattices.pairs_of(answers.at_tests(product)))

    def test_large_powers(self):
        for product in [(("many", "abr", "a", 1000),), (("many", "ab", "", -1000),), (("total", "v", "abr", 999),),
                        (("total", "w", "", -1000),), (("many", "ab", "a", 1000), ("many", "abr", "a", -1000))]:
            self.check(PLAIN, product)

    def test_products_of_forms(self):
        chance = random.Random(44)
        for _ in range(150):
            report = some_report(chance, chance.choice(PAIRS))
            for product, _ in form(report)[1]:
                self.check(report.scheme, product)

    def test_equal_schemes(self):
        first, second = Scheme("ab", [("a", "b"), ("b", "r")]), Scheme("ab", [("b", "a"), ("a", "r")])
        product = (("many", "abr", "", 4), ("total", "w", "", -1))
        self.check(first, product, answers_of(second, product))


class NotToldBack(unittest.TestCase):

    def refused(self, at, scheme, answers):
        refuses(self, NoProduct, "at", at, told_back, scheme, answers)
        refuses(self, NoProduct, "at", at, told_back, answers=answers, scheme=scheme)

    def test_no_list_of_as_many_items(self):
        scheme = Scheme("a")
        for value in [*any_values(), scheme, Report(scheme), single_test(scheme)]:
            if type(value) not in (list, tuple) or len(value) != 4:
                self.refused(None, scheme, value)
        right = [ONE] * 4
        for value in (right[1:], right + [ONE], [], [None] * 3, [(0, 1)] * 5, "1111", {0: ONE, 1: ONE, 2: ONE, 3: ONE}):
            self.refused(None, scheme, value)

    def test_items_that_are_no_fractions(self):
        for at in range(10):
            for value in [*any_values(), Report(PLAIN), [1, 1], (1, 1, 1), (True, 1), (2, 2), (-1, -1), {1: 1}]:
                if not same(value, (1, 2)):
                    answers = [ONE] * 10
                    answers[at] = value
                    self.refused(at, PLAIN, answers)
                    self.refused(at, PLAIN, tuple(answers))

    def test_fractions_that_no_product_is(self):
        for at in range(10):
            for value in [(0, 1), (-1, 1), (-2, 1), (-1, 2), (11, 1), (1, 11), (22, 1), (1, 13), (10 ** 30 + 57, 1),
                          (2 * 11, 5), (7, 17 * 5), (-(10 ** 400), 1), (121, 1), (11, 13)]:
                answers = [ONE] * 10
                answers[at] = value
                self.refused(at, PLAIN, answers)

    def test_in_full(self):
        scheme = Scheme("a")
        for at, answers in [
            (0, [TWO, ONE, ONE, ONE]), (0, [(3, 1), ONE, ONE, ONE]), (0, [(2, 3), ONE, ONE, ONE]),
            (0, [(1, 6), TWO, TWO, TWO]), (2, [ONE, TWO, ONE, ONE]), (2, [ONE, (3, 1), (3, 1), ONE]),
            (2, [ONE, (5, 1), ONE, ONE]), (2, [ONE, (7, 1), (5, 1), ONE]), (2, [ONE, ONE, (1, 7), ONE]),
            (2, [ONE, (3, 2), TWO, ONE]), (3, [ONE, ONE, ONE, (3, 1)]), (3, [ONE, (3, 1), TWO, (3, 2)]),
            (2, [ONE, (6, 1), (6, 1), ONE]), (2, [ONE, (6, 1), TWO, (3, 1)]), (3, [ONE, (6, 1), (4, 1), (1, 3)]),
        ]:
            self.refused(at, scheme, answers)

    def test_the_first_wrong_item(self):
        scheme = Scheme("a")
        for at, answers in [(0, [TWO, 0, 0, 0]), (1, [ONE, (0, 1), None, (3, 1)]), (2, [ONE, TWO, ONE, None]),
                            (1, [ONE, None, (5, 1), (11, 1)]), (2, [ONE, ONE, (5, 1), (0, 1)]), (0, [None] * 4)]:
            self.refused(at, scheme, answers)

    def as_known(self, scheme, known, answers):
        """Checks what is made of answers, Fractions, by what is known of those that products have; the wrong item."""
        at = known.first_wrong(answers)
        given = lattices.pairs_of(answers)
        if at is None:
            self.assertEqual(answers_of(scheme, told_back(scheme, given)), given)
        else:
            self.refused(at, scheme, given)
        return at

    def test_answers_that_are_changed_at_some_places(self):
        chance = random.Random(45)
        seen = {}
        changes = [Fraction(one) for one in
                   ("2", "1/2", "3", "2/3", "3/2", "5", "1/5", "7", "1/49", "4", "9/2", "11", "-1", "0")]
        for scheme in PAIRS[:12]:
            known = lattices.Answers(scheme)
            for _ in range(60):
                some = chance.sample(known.factors, min(len(known.factors), chance.randint(0, 4)))
                product = tuple(sorted(factor + (chance.choice((-3, -2, -1, 1, 2)),) for factor in some))
                answers = known.at_tests(product)
                for _ in range(chance.randint(1, 3)):
                    answers[chance.randrange(len(answers))] *= chance.choice(changes)
                at = self.as_known(scheme, known, answers)
                seen[at] = seen.get(at, 0) + 1
        self.assertGreater(seen[None], 30)
        self.assertGreater(len(seen), 15)

    def test_every_single_place_of_three_columns(self):
        for scheme in (Scheme("abc"), Scheme("abc", [("a", "b")])):
            known = lattices.Answers(scheme)
            changes = (Fraction(2), Fraction(3, 2), Fraction(5), Fraction(7))
            for at, change in itertools.product(range(known.many), changes):
                answers = known.at_tests((("many", "abcr", "", 1), ("total", "v", "", 1)))
                answers[at] *= change
                self.as_known(scheme, known, answers)


def lots_by_words(reports, tables):
    """What telling_lots(..) must be."""
    told = [[reference.named(reports[0].scheme, report.parts(), table) for table in tables] for report in reports]
    for size in range(len(tables) + 1):
        found = [lot for lot in itertools.combinations(range(len(tables)), size)
                 if all(any(one[at] != other[at] for at in lot) for one, other in itertools.combinations(told, 2))]
        if found:
            return found
    return []


class TellingLots(unittest.TestCase):

    def check(self, reports, tables, wanted):
        for given in ((reports, tables), (tuple(reports), tuple(tables))):
            before = (list(given[0]), list(given[1]))
            for told in (telling_lots(*given), telling_lots(reports=given[0], tables=given[1])):
                self.assertTrue(same(told, wanted), (told, wanted))
            self.assertEqual((list(given[0]), list(given[1])), before)

    def test_in_full(self):
        start = Report(PLAIN)
        mean, steps, summed = start.mean("a"), start.mean("ab").mean("a"), start.summed("a")
        one = Table("ab", [((0, 0), 6, 1, 1)])
        two = Table("ab", [((0, 0), 6, 1, 1), ((0, 0), 4, 1, 1)])
        three = Table("ab", [((0, 0), 6, 1, 1), ((0, 0), 6, 1, 1), ((0, 1), 9, 1, 1)])
        self.check([mean, steps], [one, two, three], [(2,)])
        self.check([mean, summed], [one, two, three], [(1,), (2,)])
        self.check([mean, steps, summed], [one, two, three], [(2,)])
        self.check([mean, steps, summed], [one, two], [])
        self.check([mean, summed], [one], [])
        self.check([mean, summed], [], [])
        self.check([mean], [], [()])
        self.check([mean], [one, two], [()])
        self.check([mean, mean], [one, two, three], [])
        self.check([mean, steps, mean], [three], [])
        self.check([mean, steps], [three, one, three], [(0,), (2,)])

    def test_several_tables_are_needed(self):
        start = Report(PLAIN)
        reports = [start.mean("").times("a"), start.mean("").times("b"), start.mean("").times("r")]
        apart = {letter: made_test(PLAIN, lower, "abr") for letter, lower in (("a", "a"), ("b", "b"), ("r", "ab"))}
        self.check(reports, [apart["a"], apart["b"], apart["r"]], [(0, 1), (0, 2), (1, 2)])
        self.check(reports, [apart["r"], apart["b"], apart["r"], apart["a"]], [(0, 1), (0, 3), (1, 2), (1, 3), (2, 3)])
        self.check(reports, [apart["a"], single_test(PLAIN), apart["a"], apart["b"], apart["b"]],
                   [(0, 3), (0, 4), (2, 3), (2, 4)])
        self.check(reports, [apart["a"], single_test(PLAIN), apart["a"]], [])

    def test_three_tables_are_needed(self):
        scheme = Scheme("abc")
        start = Report(scheme).mean("")
        reports = [start, start.times("a"), start.times("b"), start.times("c")]
        singles = [Table("abc", [((0, 0, 0), 1, 1, 1), (keys, 0, 1, 1)]) for keys in ((1, 0, 0), (0, 1, 0), (0, 0, 1))]
        self.check(reports, singles, [(0, 1, 2)])
        self.check(reports[:3], singles, [(0, 1)])
        self.check(reports[1:], singles, [(0, 1), (0, 2), (1, 2)])
        self.check(reports, singles[:2] + singles, [(0, 1, 4), (0, 3, 4), (1, 2, 4), (2, 3, 4)])

    def test_fractions_that_are_nearly_the_same(self):
        start, most = Report(Scheme("a")), 10 ** 6
        one, other = start.weighed("", "v"), start.weighed("", "w")
        rows = [((0,), most, most, most), ((0,), most - 1, most, most - 1)]
        for table, wanted in [(Table("a", rows), [(0,)]),
                              (Table("a", [row[:2] + (most, most) for row in rows]), [])]:
            self.check([one, other], [table], wanted)
        self.check([one.over("a"), one], [Table("a", rows)], [])
        shares = Table("a", [((at,), 1, most, most - (at == 0)) for at in range(100)])
        self.check([start.share("", "v"), start.share("", "w")], [shares], [(0,)])

    def test_groups_that_only_some_tables_have(self):
        start = Report(PLAIN).mean("a")
        self.check([start, start.times("b")], [Table("ab", [])], [])
        zeros = Table("ab", [((0, 0), 0, 1, 1), ((0, 1), 0, 1, 1)])
        self.check([start, start.times("b")], [Table("ab", []), zeros], [])

    def test_all_kinds(self):
        chance = random.Random(46)
        lengths = {}
        for _ in range(250):
            scheme = chance.choice(PAIRS)
            first = some_report(chance, scheme, 3)
            reports = [first] + [beside(chance, first) for _ in range(chance.randint(0, 4))]
            if len(reports) > 2 and chance.random() < 0.7:
                reports = [report for at, report in enumerate(reports) if form(report) not in map(form, reports[:at])]
            tables = [some_table(chance, scheme, 4) for _ in range(chance.randint(0, 6))]
            if chance.random() < 0.4:
                tables = chance.sample(tests(scheme), min(6, len(tests(scheme))))
            wanted = lots_by_words(reports, tables)
            self.check(reports, tables, wanted)
            length = len(wanted[0]) if wanted else None
            lengths[length] = lengths.get(length, 0) + 1
        self.assertTrue({None, 0, 1, 2} <= set(lengths), lengths)

    def test_by_the_tests_of_the_scheme(self):
        start = Report(Scheme("a")).mean("")
        offered = tests(start.scheme)
        self.check([start, start.times("a")], offered, [(1,), (2,)])
        self.check([start, start.times("a"), start.times("r")], offered, [(1,)])

    def test_the_lists_are_the_callers_own(self):
        start = Report(PLAIN)
        told = telling_lots([start], [])
        told.append(1)
        self.assertEqual(telling_lots([start], []), [()])


class TellingLotsRefused(unittest.TestCase):

    def test_levels_and_schemes(self):
        start = Report(PLAIN)
        mean = start.mean("a")
        other = Report(Scheme("ab", [("b", "a")]))
        for wanted, reports in [
            ("b", [mean, mean, start.mean("b"), start.mean("")]), ("", [mean, start.mean(""), start.mean("b")]),
            ("abr", [mean, start]), ("a", [start, mean, mean]), ("a", [mean, other.mean("a"), start]),
            ("ab", [start.mean("ab"), other.mean("b")]), ("a", [mean, Report(Scheme("abc")).mean("a")]),
            ("a", [mean, Report(Scheme("a")).mean("a")]),
        ]:
            for tables in ([], [None], [Table("a", [])], "ab"):
                refuses(self, BadLevel, "letters", wanted, telling_lots, reports, tables)
                refuses(self, BadLevel, "letters", wanted, telling_lots, tables=tables, reports=tuple(reports))

    def test_no_table(self):
        start = Report(PLAIN)
        right = Table("ab", [((0, 0), 1, 1, 1)])
        for value in [*any_values(), start, Table("a", []), Table("abc", []), Table("bc", []), right.rows]:
            for tables in ([value], [right, value], [value, None], [right, value, right]):
                raised(self, NoTable, telling_lots, [start, start.times("a")], tables)
                raised(self, NoTable, telling_lots, reports=[start], tables=tuple(tables))

    def test_not_kept(self):
        scheme = Scheme("ab", [("ab", "a"), ("a", "b"), ("b", "r")])
        start = Report(scheme)
        first = Table("ab", [((0, 0), 1, 1, 1), ((0, 1), 1, 1, 1), ((1, 1), 1, 1, 1)])
        second = Table("ab", [((0, 0), 1, 1, 1), ((1, 0), 1, 1, 1)])
        right = Table("ab", [((0, 0), 1, 1, 1), ((1, 1), 1, 1, 1)])
        for at, tables in [(1, [first]), (2, [second]), (1, [right, first, second]), (2, [right, second, first]),
                           (1, [first, None]), (2, [second, Table("a", [])])]:
            for reports in ([start], [start, start], [start, start.times("a")]):
                refuses(self, NotKept, "at", at, telling_lots, reports, tables)
        raised(self, NoTable, telling_lots, [start], [right, None, first])

    def test_equal_schemes_made_of_other_dependences(self):
        first, second = Scheme("ab", [("a", "b"), ("b", "r")]), Scheme("ab", [("b", "a"), ("a", "r")])
        self.assertEqual(first, second)
        one, other = Report(first).mean(""), Report(second).summed("")
        right = Table("ab", [((0, 0), 1, 1, 1), ((1, 1), 3, 1, 1)])
        self.assertEqual(telling_lots([one, other], [right]), [(0,)])
        self.assertEqual(telling_lots([one, Report(second).mean("")], [right]), [])
        broken = Table("ab", [((0, 1), 1, 1, 1), ((1, 1), 3, 1, 1)])
        refuses(self, NotKept, "at", 1, telling_lots, [one, other], [broken])
        refuses(self, NotKept, "at", 0, telling_lots, [other, one], [broken])


if __name__ == "__main__":
    unittest.main()
