"""What the program promises as a whole, over live tables: points [2] (a), (b), (e) and (f)."""

import random
import unittest

from meanways.depending import least_dependences
from meanways.desk import Desk
from meanways.errors import MeanError
from meanways.forms import by_form, form
from meanways.keeping import two_tables, worked_out
from meanways.live import Live
from meanways.logs import first_wrong, log_of, replayed
from meanways.parting import alike, parted
from meanways.reports import Report
from meanways.schemes import Scheme
from meanways.tables import Table
from meanways.telling import telling_lots, tests
from meanways.texts import read_report, read_table, report_text, table_text
import reference
from some_reports import PAIRS, beside, sets_within, some_report, some_row, some_scheme
from some_values import same


def some_deed(chance, live):
    """One deed that chance tells, if it can be done; whether it was."""
    word = chance.choice(("add", "add", "add", "drop", "undo"))
    try:
        if word == "add":
            live.add(some_row(chance, live.scheme.columns))
        elif word == "drop":
            live.drop(chance.randint(0, len(live.table)))
        else:
            live.undo()
    except MeanError:
        return False
    return True


def grown(scheme, table):
    """A live table to which the rows of a table have come one after another."""
    live = Live(scheme)
    for row in table.rows:
        live.add(row)
    return live


class StepByStep(unittest.TestCase):

    def test_what_is_told_is_what_the_form_says(self):
        chance = random.Random(100)
        for _ in range(80):
            scheme = chance.choice(PAIRS) if chance.random() < 0.6 else some_scheme(chance)
            live = Live(scheme)
            reports = [some_report(chance, scheme) for _ in range(3)]
            for _ in range(12):
                some_deed(chance, live)
                for report in reports:
                    told = live.tell(report)
                    self.assertTrue(same(told, by_form(report, live.table)))
                    self.assertTrue(same(told, reference.named(scheme, report.parts(), live.table)))

    def test_a_live_table_tells_what_a_new_one_tells(self):
        chance = random.Random(101)
        for _ in range(80):
            scheme = chance.choice(PAIRS)
            live = Live(scheme)
            report = some_report(chance, scheme)
            for _ in range(15):
                before, log = live.table, log_of(live)
                if not some_deed(chance, live):
                    self.assertEqual((live.table, log_of(live)), (before, log))
                new = Table(scheme.columns, list(live.table.rows))
                self.assertEqual(live.table, new)
                self.assertTrue(same(live.tell(report), report(new)))
                self.assertIsNone(new.broken(scheme))
                self.assertIsNone(first_wrong(scheme, log_of(live)))
                self.assertTrue(same(replayed(scheme, log_of(live)).tell(report), live.tell(report)))
                self.assertEqual(read_table(table_text(live.table)), new)
                self.assertTrue(same(live.tell(read_report(scheme, report_text(report))), report(new)))


class AlikeOrParted(unittest.TestCase):

    def test_what_parts_two_reports_parts_them_in_a_live_table(self):
        chance = random.Random(102)
        seen = {True: 0, False: 0}
        for _ in range(250):
            scheme = chance.choice(PAIRS)
            one = some_report(chance, scheme, 4)
            other = beside(chance, one)
            if not alike(one, other):
                if len(set(form(one)[1]) ^ set(form(other)[1])) < 5:
                    table, name = parted(one, other)
                    live = grown(scheme, table)
                    self.assertEqual(live.table, table)
                    self.assertNotEqual(live.tell(one)[name], live.tell(other)[name])
                    seen[False] += 1
            else:
                live = Live(scheme)
                for _ in range(10):
                    some_deed(chance, live)
                    self.assertEqual(live.tell(one), live.tell(other))
                    if log_of(live):
                        self.assertEqual(live.changed(one), live.changed(other))
                seen[True] += 1
        self.assertGreater(min(seen.values()), 40)

    def test_under_the_least_dependences_they_tell_the_same(self):
        chance = random.Random(103)
        start = Report(Scheme("ab"))
        one, other = start.mean("ab").mean("a"), start.mean("a")
        lots = least_dependences(one, other)
        self.assertEqual(lots, [(("a", "b"),), (("a", "r"),), (("b", "r"),)])
        for lot in lots:
            first, second = one.under(lot), other.under(lot)
            for _ in range(20):
                live = Live(first.scheme)
                for _ in range(12):
                    some_deed(chance, live)
                    self.assertEqual(live.tell(first), live.tell(second))

    def test_the_lots_of_tables_tell_reports_apart(self):
        start = Report(Scheme("ab"))
        reports = [start.mean("a"), start.mean("ab").mean("a"), start.summed("a")]
        offered = tests(start.scheme)
        lots = telling_lots(reports, offered[4:])
        self.assertTrue(lots)
        for lot in lots:
            told = [[grown(start.scheme, offered[4 + at]).tell(report) for at in lot] for report in reports]
            self.assertEqual([told.count(one) for one in told], [1, 1, 1])


class WorkedOut(unittest.TestCase):

    def pairs(self, seed, many):
        chance = random.Random(seed)
        found = []
        while len(found) < many:
            scheme = chance.choice(PAIRS)
            kept = some_report(chance, scheme, 3)
            if len(kept) < 8 and len(form(kept)[1]) == 1:
                base = kept if chance.random() < 0.5 else Report(scheme)
                letters = chance.choice(sets_within(scheme, kept.level))
                report = getattr(base, chance.choice(("summed", "mean")))(letters)
                found.append((kept, report.times(chance.choice(reference.sets_of(scheme.columns)))))
        return found

    def test_what_is_worked_out_is_so_behind_each_deed(self):
        chance = random.Random(104)
        seen = 0
        for kept, report in self.pairs(105, 200):
            found = worked_out(kept, report)
            if found is not None:
                seen += 1
                live = Live(kept.scheme)
                for _ in range(10):
                    some_deed(chance, live)
                    self.assertEqual(
                        reference.from_kept(live.tell(kept), kept.level, report.level, found, live.table),
                        live.tell(report))
        self.assertGreater(seen, 50)

    def test_what_is_not_worked_out_is_shown_by_two_live_tables(self):
        seen = 0
        for kept, report in self.pairs(106, 400):
            tables = two_tables(kept, report)
            self.assertIs(tables is None, worked_out(kept, report) is not None)
            if tables is not None:
                seen += 1
                one, other = [grown(kept.scheme, table) for table in tables]
                self.assertEqual((one.table, other.table), tables)
                self.assertEqual(one.tell(kept), other.tell(kept))
                self.assertNotEqual(one.tell(report), other.tell(report))
        self.assertGreater(seen, 50)


class ExamplesOfTheDocument(unittest.TestCase):

    def test_a_mean_of_means(self):
        shops = Scheme("ab")
        steps, plain = Report(shops).mean("ab").mean("a"), Report(shops).mean("a")
        table = Table("ab", [((0, 0), 6, 1, 1), ((0, 0), 6, 1, 1), ((0, 1), 9, 1, 1)])
        self.assertTrue(same((steps(table), plain(table), form(plain)),
                             ({(0,): (15, 2)}, {(0,): (7, 1)}, ("a", (((("many", "abr", "a", -1),), 1),)))))

    def test_dependences_that_make_them_alike(self):
        start = Report(Scheme("ab"))
        one, two = start.mean("ab").mean("a"), start.mean("a")
        told = (alike(one, two), least_dependences(one, two),
                alike(one.under([("ab", "r")]), two.under([("ab", "r")])))
        self.assertTrue(same(told, (False, [(("a", "b"),), (("a", "r"),), (("b", "r"),)], True)))

    def test_a_kept_report(self):
        start = Report(Scheme("ab"))
        kept = start.summed("ab")
        told = (worked_out(kept, start.summed("ab").mean("a")), worked_out(kept, start.mean("a")))
        self.assertTrue(same(told, ([((("many", "ab", "a", -1),), (1, 1))], None)))

    def test_the_same_at_a_desk(self):
        desk = Desk(Scheme("ab"))
        for row, wanted in [("add 0 0 6 1 1", "0"), ("add 0 0 6 1 1", "1"), ("add 0 1 9 1 1", "2"),
                            ("tell x mean ab mean a", "0: 15/2"), ("tell x mean a", "0: 7"),
                            ("alike x mean ab mean a | x mean a", "no"), ("form x mean a", "1 many(abr,a)^-1")]:
            self.assertEqual(desk.say(row), wanted)


if __name__ == "__main__":
    unittest.main()
