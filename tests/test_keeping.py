"""What can be worked out from a kept report, tables that show what cannot, and least lots of kept reports."""

import itertools
import random
import unittest

from meanways.errors import BadLevel, TooMany
from meanways.forms import form
from meanways.keeping import least_lots, two_tables, worked_out
from meanways.reports import Report
from meanways.schemes import Scheme
from meanways.tables import Table
import reference
from reference import sets_of
from some_reports import PAIRS, beside, some_report, some_table
from some_values import refuses, same

PLAIN = Scheme("ab")
ONE, MINUS = (1, 1), (-1, 1)


def shows(test, kept, report, told):
    """Checks that two tables show that the report cannot be worked out from the kept one."""
    test.assertIs(type(told), tuple)
    test.assertEqual([type(table) for table in told], [Table, Table])
    scheme = kept.scheme
    for table in told:
        test.assertEqual(table.columns, scheme.columns)
        test.assertTrue(reference.keeps_all(scheme, table.rows))
        test.assertIsNone(table.broken(scheme))
    one, other = told
    test.assertEqual(reference.named(scheme, kept.parts(), one), reference.named(scheme, kept.parts(), other))
    test.assertNotEqual(reference.named(scheme, report.parts(), one), reference.named(scheme, report.parts(), other))
    test.assertTrue(same(kept(one), kept(other)))
    test.assertNotEqual(report(one), report(other))


def narrower(chance, report, steps=3):
    """A report whose level lies within that of a given one, and that begins with its steps or does not."""
    first = some_report(chance, report.scheme, steps)
    if len(first) > 8 or chance.random() < 0.5:
        first = report
    within = [letters for letters in sets_of(report.scheme.columns)
              if set(reference.closure(report.scheme, letters)) <= set(report.level) & set(first.level)]
    found = getattr(first, chance.choice(("summed", "mean")))(chance.choice(within))
    return getattr(found, chance.choice(("times", "over")))(chance.choice(sets_of(report.scheme.columns)))


def some_pairs(seed, many, schemes=PAIRS):
    """Kept reports with one term, and reports to be worked out from them."""
    chance = random.Random(seed)
    found = []
    while len(found) < many:
        kept = some_report(chance, chance.choice(schemes), 3)
        if len(kept) < 7 and len(form(kept)[1]) == 1:
            report = narrower(chance, kept)
            if chance.random() < 0.4 and len(report) < 5:
                report = report + beside(chance, report)
            found.append((kept, report))
    return found


class WorkedOut(unittest.TestCase):

    def check(self, kept, report, wanted):
        for told in (worked_out(kept, report), worked_out(kept=kept, report=report)):
            self.assertTrue(same(told, wanted), (told, wanted))
        told = two_tables(kept, report)
        if wanted is None:
            shows(self, kept, report, told)
            self.assertEqual(told, two_tables(kept=kept, report=report))
        else:
            self.assertIsNone(told)
            self.assertIsNone(two_tables(report=report, kept=kept))

    def test_in_full(self):
        start = Report(PLAIN)
        kept = start.summed("ab")
        self.check(kept, kept.mean("a"), [((("many", "ab", "a", -1),), ONE)])
        self.check(kept, start.mean("a"), None)
        self.check(kept, start.summed("a"), [((), ONE)])
        self.check(kept, kept.mean("a").mean(""), [((("many", "a", "", -1), ("many", "ab", "a", -1)), ONE)])
        self.check(kept, kept, [((), ONE)])
        self.check(kept, start.summed("ab").times("r"), None)
        self.check(kept, kept.mean("a").times("b"), [((), ONE)])
        self.check(start, start.mean("a"), [((("many", "abr", "a", -1),), ONE)])
        self.check(start, start.weighed("a", "v"), None)
        self.check(start.weighed("a", "v"), start.weighed("a", "v").mean(""), [((("many", "a", "", -1),), ONE)])
        self.check(start.weighed("a", "v"), start.weighed("a", "w"), None)
        self.check(start.weighed("a", "v"), start.weighed("", "v"), None)
        self.check(start.share("a", "v").summed("a"), start.weighed("a", "v").mean(""),
                   [((("many", "a", "", -1),), ONE)])

    def test_by_columns_that_the_kept_one_does_not_show(self):
        start = Report(PLAIN)
        kept = start.summed("a")
        self.check(kept, kept.times("b"), None)
        self.check(kept, kept.summed("").times("b"), None)
        self.check(kept, kept.summed("").times("a"), [((("many", "a", "", 1),), ONE)])
        self.check(start.summed("").times("a").summed(""), start.summed("").times("b"), None)
        self.check(start.summed("b").summed("").times("b"), start.summed(""), None)
        for dependences, wanted in (([("a", "b")], [((), ONE)]), ([("", "b")], [((), ONE)]), ([("b", "a")], None)):
            start = Report(Scheme("ab", dependences))
            self.check(start.summed("a"), start.summed("a").times("b"), wanted)

    def test_factors_within_sets_that_are_not_in_the_level(self):
        # How many values of a there are with this value of b: only a is shown.
        kept = Report(PLAIN).summed("a")
        self.check(kept, Report(PLAIN).summed("ab").mean("b").summed(""), None)
        self.check(kept, Report(PLAIN).summed("b").times("a").summed(""), None)
        start = Report(Scheme("abc"))
        totals = (start.mean("ab").summed("b").summed(""), start.mean("ac").mean("c").mean(""),
                  start.summed("bc").mean("b").summed(""))
        for one, other in itertools.product(totals, repeat=2):
            self.check(one.summed(""), other, [((), ONE)] if one == other else None)
        for letters in ("a", "ab", "c"):
            self.check(start.summed(letters), start.mean("ab").mean("b").summed(""), None)
        for letters in ("b", "ab", "ac", "abc"):
            self.check(start.mean("abc").mean("ab").mean("b").summed("").times("a").summed(""),
                       start.mean("abc").mean(letters).summed(""), None)

    def test_reports_without_terms(self):
        start = Report(PLAIN)
        for kept in (start, start.mean("ab"), start.mean("a"), start.weighed("", "v")):
            none = kept - kept
            self.check(kept, none, [])
            self.check(kept, none.summed("").times("r"), [])

    def test_a_report_from_itself(self):
        for kept, _ in some_pairs(60, 100):
            self.check(kept, kept, [((), ONE)])

    def test_numbers(self):
        start = Report(PLAIN)
        two, three, below = start + start, start + start + start, start - (start + start)
        lower = below - start
        self.check(two, start, [((), (1, 2))])
        self.check(start, two, [((), (2, 1))])
        self.check(two, three, [((), (3, 2))])
        self.check(two, two, [((), ONE)])
        self.check(below, start, [((), MINUS)])
        self.check(start, below, [((), MINUS)])
        self.check(below, below, [((), ONE)])
        self.check(lower, three, [((), (-3, 2))])
        self.check(lower, (below + below).mean(""), [((("many", "abr", "", -1),), ONE)])
        self.check(below, start + start.share("a", "v"), None)
        self.check(lower, start.weighed("", "v"), None)
        self.check(lower.summed("a"), start.summed("a").times("b"), None)
        self.check(lower.mean("a"), below.summed("a"), None)
        self.check(lower.mean("a"), below.mean("a").times("a"), [((), (1, 2))])

    def test_several_terms(self):
        start = Report(PLAIN)
        kept = start.summed("ab")
        mean, summed = kept.mean("a"), kept.summed("a")
        self.check(kept, mean + summed, [((), ONE), ((("many", "ab", "a", -1),), ONE)])
        self.check(kept, summed - mean, [((), ONE), ((("many", "ab", "a", -1),), MINUS)])
        self.check(kept, ((kept + kept).mean("a") + summed).mean(""),
                   [((("many", "a", "", -1),), ONE), ((("many", "a", "", -1), ("many", "ab", "a", -1)), (2, 1))])
        self.check(kept, mean + start.mean("a"), None)
        self.check(kept, mean + start.mean("a") - start.mean("a"), [((("many", "ab", "a", -1),), ONE)])

    def test_terms_whose_changes_cancel_out_at_small_tables(self):
        start = Report(Scheme("a"))
        kept, three = start.summed(""), (start + start + start).summed("")
        for first, second in itertools.product("ar", repeat=2):
            # At some small tables these tell the same as with one row alone.
            self.check(kept, (kept.times(first) - three).times(second), None)
            self.check(kept, (kept.times(first) - kept).times(second).times(second), None)
        self.check(kept, (kept.times("a") - kept.times("r")).times("a").times("a"), None)
        self.check(kept, kept.times("a") - kept.times("r"), None)
        self.check(kept, kept.times("a") - kept.times("r").over("a"), None)

    def test_three_and_four_terms(self):
        start = Report(Scheme("abcd")).summed("ab")
        for first, second in itertools.permutations(("c", "d", "cd", "r"), 2):
            report = start + (start - start.times(first)).over(second)
            self.assertEqual(len(form(report)[1]), 3)
            self.check(start, report, None)
            self.check(start, report.mean("a"), None)
        start = Report(Scheme("abc"))
        for (first, second), third in itertools.product(itertools.permutations(("a", "b", "c", ""), 2), ("ab", "bc")):
            report = start + (start - (start + start.share(first, "v")).share(second, "w")).share(third, "v")
            self.assertEqual(len(form(report)[1]), 4)
            self.check(start, report, None)
            self.check(start, report.summed("ab"), None)
            self.check(start.share(first, "v"), report.summed(""), None)

    def test_all_kinds(self):
        seen = {True: 0, False: 0}
        for kept, report in some_pairs(61, 700):
            wanted = reference.worked_out(reference.form(kept.scheme, kept.parts()),
                                          reference.form(report.scheme, report.parts()))
            self.check(kept, report, wanted)
            seen[wanted is None] += 1
        self.assertGreater(min(seen.values()), 150)

    def test_four_columns(self):
        for kept, report in some_pairs(62, 80, [scheme for scheme in PAIRS if len(scheme.columns) == 4]):
            self.check(kept, report, reference.worked_out(form(kept), form(report)))

    def test_it_is_worked_out_so(self):
        chance = random.Random(63)
        seen = 0
        for kept, report in some_pairs(64, 300):
            told = worked_out(kept, report)
            if told is not None:
                seen += 1
                for _ in range(3):
                    table = some_table(chance, kept.scheme)
                    self.assertEqual(reference.from_kept(kept(table), kept.level, report.level, told, table),
                                     report(table))
        self.assertGreater(seen, 50)

    def test_equal_schemes_made_of_other_dependences(self):
        first, second = Scheme("abc", [("a", "b"), ("b", "a")]), Scheme("abc", [("b", "a"), ("ac", "b"), ("a", "b")])
        kept, report = Report(first).summed("ac"), Report(second).summed("b").times("c")
        self.check(kept, report, [((("many", "abc", "ab", 1),), ONE)])
        kept, report = Report(first).summed("a"), Report(second).summed("b").times("c")
        self.check(kept, report, None)
        self.assertEqual(two_tables(kept, report),
                         two_tables(Report(second).summed("a"), Report(first).summed("b").times("c")))

    def test_lists_are_the_callers_own(self):
        start = Report(PLAIN)
        worked_out(start, start).append(1)
        self.assertEqual(worked_out(start, start), [((), ONE)])


class Refused(unittest.TestCase):

    def check(self, wanted, value, kept, report):
        name = "letters" if wanted is BadLevel else "limit"
        for work in (worked_out, two_tables):
            refuses(self, wanted, name, value, work, kept, report)
            refuses(self, wanted, name, value, work, report=report, kept=kept)
        refuses(self, wanted, name, value, least_lots, [kept], [report])

    def test_levels(self):
        for scheme in PAIRS[:10]:
            for first, second in itertools.product(sets_of(scheme.columns), repeat=2):
                kept, report = Report(scheme).summed(first), Report(scheme).mean(second)
                if not set(report.level) <= set(kept.level):
                    self.check(BadLevel, report.level, kept, report)
                    self.check(BadLevel, report.level, kept - kept, report)
                else:
                    worked_out(kept, report)

    def test_schemes(self):
        kept = Report(PLAIN).summed("a")
        for scheme in (Scheme("ab", [("b", "a")]), Scheme("a"), Scheme("abc"), Scheme("ab", [("b", "r")])):
            for letters in ("a", ""):
                report = Report(scheme).summed(letters)
                self.check(BadLevel, letters, kept, report)
                self.check(BadLevel, "a", report, kept)
                self.check(BadLevel, letters, kept - kept, report)

    def test_not_just_one_term(self):
        start = Report(PLAIN)
        for report in (start.mean("a"), start.summed("a"), start.summed(""), start.summed("a") - start.summed("a")):
            for kept in (start - start, start + start.share("a", "v"), start.mean("a") + start.summed("a"),
                         start.mean("a") - start.mean("ab").mean("a"), start.mean("ab") - start.mean("ab")):
                self.check(TooMany, 1, kept, report)

    def test_one_term_of_several_parts(self):
        start = Report(PLAIN)
        mean = start.mean("a")
        self.assertEqual(worked_out(mean + start.summed("a") - start.summed("a"), mean), [((), ONE)])
        self.assertEqual(worked_out(start.mean("ab").mean("a") + mean - start.mean("ab").mean("a"), mean), [((), ONE)])


class LeastLots(unittest.TestCase):

    def check(self, kepts, reports, wanted):
        for given in ((kepts, reports), (tuple(kepts), tuple(reports))):
            before = [list(some) for some in given]
            for told in (least_lots(*given), least_lots(reports=given[1], kepts=given[0])):
                self.assertTrue(same(told, wanted), (told, wanted))
            self.assertEqual([list(some) for some in given], before)

    def test_in_full(self):
        start = Report(PLAIN)
        fine, by_a, by_b = start.summed("ab"), start.summed("a"), start.summed("b")
        counts = fine.times("r")
        self.check([fine, by_a, by_b], [by_a.summed("")], [(0,), (1,), (2,)])
        self.check([fine, by_a, by_b], [by_a.mean("")], [(0,), (1,)])
        self.check([by_a, by_b], [by_a.mean(""), by_b.mean("")], [(0, 1)])
        self.check([by_a, by_b, fine], [by_a.summed(""), by_b.mean("")], [(1,), (2,)])
        self.check([by_a.summed(""), by_b.summed("")], [by_a.summed(""), by_a.summed("")], [(0,), (1,)])
        self.check([fine, counts], [counts.mean("").times("ab"), fine.summed("")], [(0, 1)])
        self.check([fine], [counts.mean("")], [])
        self.check([fine, fine], [fine.mean("")], [(0,), (1,)])
        self.check([fine, counts, fine], [fine.mean(""), counts.mean("")], [(0, 1), (1, 2)])
        self.check([fine, by_a], [], [()])
        self.check([], [], [()])
        self.check([], [fine], [])
        self.check([start - start, by_a], [], [()])

    def test_lots_of_unlike_lengths(self):
        start = Report(PLAIN)
        fine, by_a, by_b, total = start.summed("ab"), start.summed("a"), start.summed("b"), start.summed("")
        self.check([by_a, by_b, fine], [by_a.mean(""), by_b.mean("")], [(2,), (0, 1)])
        self.check([by_a, fine, by_b], [by_a.mean(""), by_b.mean("")], [(1,), (0, 2)])
        self.check([by_b, by_a, by_b, fine, by_a], [by_a.mean(""), by_b.mean(""), total],
                   [(3,), (0, 1), (0, 4), (1, 2), (2, 4)])
        start = Report(Scheme("abc"))
        kepts = [start.summed("a"), start.summed("b"), start.summed("c"), start.summed("ab"), start.summed("abc")]
        reports = [start.summed(letter).mean("") for letter in "abc"]
        self.check(kepts, reports, [(4,), (2, 3), (0, 1, 2)])
        self.check(kepts[:4] + kepts[1:3], reports, [(2, 3), (3, 5), (0, 1, 2), (0, 1, 5), (0, 2, 4), (0, 4, 5)])

    def test_all_kinds(self):
        chance = random.Random(65)
        lengths = {}
        for _ in range(150):
            scheme = chance.choice(PAIRS[2:10])
            start = Report(scheme)
            kepts = [getattr(start, chance.choice(("summed", "mean")))(chance.choice(sets_of(scheme.columns)))
                     for _ in range(chance.randint(1, 6))]
            shared = set(kepts[0].level).intersection(*[kept.level for kept in kepts])
            within = [letters for letters in sets_of(scheme.columns)
                      if set(reference.closure(scheme, letters)) <= shared]
            reports = [getattr(chance.choice(kepts), chance.choice(("summed", "mean")))(chance.choice(within))
                       for _ in range(chance.randint(1, 3))]
            helps = [[reference.worked_out(form(kept), form(report)) is not None for kept in kepts]
                     for report in reports]
            wanted = reference.least(len(kepts), lambda lot: all(any(one[at] for at in lot) for one in helps))
            self.check(kepts, reports, wanted)
            length = (len(wanted), len(wanted[0]))
            lengths[length] = lengths.get(length, 0) + 1
        self.assertTrue({(1, 1), (2, 1), (1, 2)} <= set(lengths), lengths)

    def test_the_first_error_counts(self):
        start = Report(PLAIN)
        fine, by_a, by_b, total = start.summed("ab"), start.summed("a"), start.summed("b"), start.summed("")
        none = fine - fine
        for wanted, kepts, reports in [
            ("b", [by_a, none], [by_b, total]), (1, [none, by_a], [by_b, total]), ("a", [fine, by_b], [by_b, by_a]),
            (1, [fine, none, by_b], [by_a]), ("b", [fine, by_a, none], [by_b]), ("abr", [fine], [total, start]),
            (1, [fine, by_b, none], [total, by_a]), ("a", [fine, by_b], [total, by_a, start]),
            ("ab", [by_a, none], [fine]), ("a", [by_b, by_a], [by_a, by_b]), ("b", [by_b, by_a], [by_b, by_a]),
        ]:
            error, name = (TooMany, "limit") if wanted == 1 else (BadLevel, "letters")
            refuses(self, error, name, wanted, least_lots, kepts, reports)
            refuses(self, error, name, wanted, least_lots, reports=tuple(reports), kepts=tuple(kepts))

    def test_a_new_list_each_time(self):
        told = least_lots([], [])
        told.append(1)
        self.assertEqual(least_lots([], []), [()])


if __name__ == "__main__":
    unittest.main()
