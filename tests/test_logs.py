"""Logs of live tables: what stands, whether a value is such a log, and live tables that are made from one."""

import random
import unittest

from meanways.errors import BadLog, NothingLeft
from meanways.live import Live
from meanways.logs import first_wrong, log_of, replayed
from meanways.reports import Report
from meanways.schemes import Scheme
from meanways.tables import Table
import reference
from some_reports import PAIRS, some_row, some_scheme
from some_values import any_values, raised, refuses, same

PLAIN = Scheme("ab")
SIX, NINE, TWO = ((0, 0), 6, 1, 1), ((0, 1), 9, 1, 1), ((1, 0), 2, 3, 4)


def some_log(chance, scheme, many):
    """The rows and the log of a live table to which this has happened."""
    rows, log = [], []
    for _ in range(many):
        if rows and chance.random() < 0.35:
            at = chance.randrange(len(rows))
            log.append(("drop", at, rows.pop(at)))
        else:
            row = some_row(chance, scheme.columns)
            if reference.keeps_all(scheme, rows + [row]):
                rows.append(row)
                log.append(("add", row))
    return rows, log


class LogOf(unittest.TestCase):

    def check(self, live, wanted):
        for told in (log_of(live), log_of(live=live)):
            self.assertTrue(same(told, wanted), told)

    def test_in_full(self):
        live = Live(PLAIN)
        self.check(live, [])
        live.add(SIX)
        live.add(NINE)
        live.add(SIX)
        self.check(live, [("add", SIX), ("add", NINE), ("add", SIX)])
        live.drop(1)
        live.drop(1)
        self.check(live, [("add", SIX), ("add", NINE), ("add", SIX), ("drop", 1, NINE), ("drop", 1, SIX)])
        live.undo()
        live.add(TWO)
        self.check(live, [("add", SIX), ("add", NINE), ("add", SIX), ("drop", 1, NINE), ("add", TWO)])
        for _ in range(5):
            live.undo()
        self.check(live, [])

    def test_what_was_refused_is_not_in_it(self):
        live = Live(Scheme("ab", [("a", "r")]))
        live.add(SIX)
        for work in (lambda: live.add(NINE), lambda: live.add(None), lambda: live.drop(1)):
            with self.assertRaises(ValueError):
                work()
        self.check(live, [("add", SIX)])

    def test_the_list_is_the_callers_own(self):
        live = Live(PLAIN)
        live.add(SIX)
        told = log_of(live)
        told.clear()
        self.check(live, [("add", SIX)])
        kept = log_of(live)
        live.drop(0)
        self.assertEqual(kept, [("add", SIX)])

    def test_blocks(self):
        live = Live(PLAIN)
        live.add(SIX)
        with live:
            live.drop(0)
            self.check(live, [("add", SIX), ("drop", 0, SIX)])
        with self.assertRaises(KeyError):
            with live:
                live.undo()
                live.add(TWO)
                self.check(live, [("add", SIX), ("add", TWO)])
                raise KeyError
        self.check(live, [("add", SIX), ("drop", 0, SIX)])
        self.check(live.copy(), [("add", SIX), ("drop", 0, SIX)])


class FirstWrong(unittest.TestCase):

    def check(self, wanted, scheme, log):
        """Whether the first wrong item is found; what is made of it if there is none."""
        given = [log, tuple(log)] if type(log) is list else [log]
        for one in given:
            for told in (first_wrong(scheme, one), first_wrong(scheme=scheme, log=one)):
                self.assertTrue(same(told, wanted), (told, wanted, one))
            if wanted is None:
                self.assertTrue(same(log_of(replayed(scheme, one)), list(log)))
            else:
                refuses(self, BadLog, "at", wanted, replayed, scheme, one)
                refuses(self, BadLog, "at", wanted, replayed, log=one, scheme=scheme)

    def test_right_ones(self):
        for log in ([], [("add", SIX)], [("add", SIX), ("add", SIX)], [("add", SIX), ("drop", 0, SIX)],
                    [("add", SIX), ("add", NINE), ("drop", 0, SIX), ("drop", 0, NINE), ("add", TWO)],
                    [("add", SIX), ("add", NINE), ("add", TWO), ("drop", 2, TWO), ("drop", 0, SIX)]):
            self.check(None, PLAIN, log)

    def test_no_list(self):
        for value in [*any_values(), Live(PLAIN), Table("ab", []), PLAIN]:
            if type(value) not in (list, tuple):
                self.check(0, PLAIN, value)
            elif value:
                self.check(0, PLAIN, value)
            else:
                self.check(None, PLAIN, value)

    def test_items_of_other_kinds(self):
        wrong = [
            ["add", SIX], ("add",), ("add", SIX, SIX), ("drop", 0), ("drop", 0, SIX, SIX), ("Add", SIX), ("undo",),
            ("drop", SIX, 0), ("add", 0, SIX), ("drop", 1, SIX), ("drop", -1, SIX), ("drop", True, SIX),
            ("drop", False, SIX), ("drop", None, SIX), ("drop", "0", SIX), ("drop", (0,), SIX), ("drop", 0, NINE),
            ("drop", 0, None), ("drop", 0, list(SIX)), ["drop", 0, SIX], ("drop", 0, ([0, 0], 6, 1, 1)),
            ("drop", 0, ((0, 0), 6, True, 1)), ("drop", 0, ((0, 0), 6, 1, True)), ("drop", 0, ((False, 0), 6, 1, 1)),
            ("drop", 0, ((0, 0), 6, 1, 2)), ("drop", 0, ((0, 0), 7, 1, 1)), (0, SIX), (None, 0, SIX),
            ("add", list(SIX)), ("add", None), ("add", ((0, 0), 6, 1, 0)), ("add", ((0, 0), 6, 1)),
            ("add", ((0,), 6, 1, 1)), ("add", ((0, True), 6, 1, 1)), ("add", ((0, 0), True, 1, 1)),
            ("add", ([0, 0], 6, 1, 1)), ("add", ((0, 0), 6, 0, 1)), ("add", ((0, -1), 6, 1, 1)), (("add", SIX),),
            "add", {"add": SIX}, SIX, (["add"], SIX), (True, SIX), (PLAIN, SIX), (Table("ab", []), 0, SIX),
            ("add", Table("ab", [SIX])),
        ]
        for item in [*any_values(), *wrong]:
            for behind in ([], [("drop", 0, SIX)], [None]):
                self.check(1, PLAIN, [("add", SIX), item] + behind)
                if item != ("drop", 0, SIX):
                    self.check(0, PLAIN, [item, ("add", SIX)] + behind)

    def test_true_for_a_key_that_is_1(self):
        row = ((1, 1), 1, 1, 1)
        for wrong in (((True, 1), 1, 1, 1), ((1, True), 1, 1, 1), ((1, 1), True, 1, 1), ((1, 1), 1, True, 1),
                      ((1, 1), 1, 1, True)):
            self.check(1, PLAIN, [("add", row), ("drop", 0, wrong)])
            self.check(0, PLAIN, [("add", wrong), ("drop", 0, row)])
        self.check(2, PLAIN, [("add", SIX), ("add", row), ("drop", True, row)])
        self.check(None, PLAIN, [("add", SIX), ("add", row), ("drop", 1, row)])

    def test_numbers_of_rows_at_that_time(self):
        self.check(0, PLAIN, [("drop", 0, SIX)])
        self.check(2, PLAIN, [("add", SIX), ("add", NINE), ("drop", 2, NINE), ("drop", 0, SIX)])
        self.check(3, PLAIN, [("add", SIX), ("add", NINE), ("drop", 0, SIX), ("drop", 1, NINE)])
        self.check(3, PLAIN, [("add", SIX), ("add", NINE), ("drop", 0, SIX), ("drop", 0, SIX)])
        self.check(2, PLAIN, [("add", SIX), ("drop", 0, SIX), ("drop", 0, SIX)])
        self.check(2, PLAIN, [("add", SIX), ("add", NINE), ("drop", -1, NINE)])

    def test_rows_that_break_a_dependence(self):
        scheme = Scheme("ab", [("a", "b"), ("b", "r")])
        self.check(1, scheme, [("add", SIX), ("add", SIX)])
        self.check(1, scheme, [("add", SIX), ("add", NINE), ("add", None)])
        self.check(1, scheme, [("add", SIX), ("add", TWO)])
        self.check(None, scheme, [("add", SIX), ("drop", 0, SIX), ("add", NINE)])
        self.check(3, scheme, [("add", SIX), ("drop", 0, SIX), ("add", NINE), ("add", SIX)])

    def test_rows_over_other_columns(self):
        self.check(0, Scheme("a"), [("add", SIX)])
        self.check(0, Scheme("abc"), [("add", SIX)])
        self.check(None, Scheme("cd"), [("add", SIX)])

    def test_the_log_stays(self):
        log = [("add", SIX), ("drop", 0, SIX), None]
        first_wrong(PLAIN, log)
        self.assertEqual(log, [("add", SIX), ("drop", 0, SIX), None])

    def test_all_kinds(self):
        chance = random.Random(90)
        seen = {}
        for _ in range(200):
            scheme = chance.choice(PAIRS) if chance.random() < 0.7 else some_scheme(chance)
            _, log = some_log(chance, scheme, chance.randint(0, 12))
            self.check(None, scheme, log)
            if log:
                at = chance.randrange(len(log))
                log[at:at + chance.randint(0, 1)] = chance.choice(
                    ([], [("drop", chance.randint(0, 3), some_row(chance, scheme.columns, 1))],
                     [("add", some_row(chance, scheme.columns))]))
                wanted = first_by_words(scheme, log)
                self.check(wanted, scheme, log)
                seen[wanted is None] = seen.get(wanted is None, 0) + 1
        self.assertGreater(min(seen.values()), 20)


def first_by_words(scheme, log):
    """What first_wrong must be, for a list of right kinds of items."""
    rows = []
    for at, item in enumerate(log):
        if item[0] == "add":
            rows.append(item[1])
            if not reference.keeps_all(scheme, rows):
                return at
        elif item[1] >= len(rows) or rows[item[1]] != item[2]:
            return at
        else:
            rows.pop(item[1])
    return None


class Replayed(unittest.TestCase):

    def test_in_full(self):
        log = [("add", SIX), ("add", NINE), ("drop", 0, SIX), ("add", TWO)]
        for live in (replayed(PLAIN, log), replayed(log=tuple(log), scheme=PLAIN)):
            self.assertIs(type(live), Live)
            self.assertIs(live.scheme, PLAIN)
            self.assertEqual(live.table, Table("ab", [NINE, TWO]))
            self.assertEqual(live.changed(Report(PLAIN).summed("a")), [(1,)])
            for rows in ([NINE], [SIX, NINE], [SIX], []):
                self.assertIsNone(live.undo())
                self.assertEqual(live.table.rows, tuple(rows))
            raised(self, NothingLeft, live.undo)

    def test_a_live_table_like_the_other_one(self):
        chance = random.Random(91)
        for _ in range(100):
            scheme = chance.choice(PAIRS)
            rows, log = some_log(chance, scheme, 15)
            before = list(log)
            live = replayed(scheme, log)
            self.assertTrue(same(live.table.rows, tuple(rows)))
            self.assertTrue(same(log_of(live), log))
            twin = replayed(scheme, log_of(live))
            self.assertIsNot(twin, live)
            while log_of(live):
                self.assertEqual(twin.undo(), live.undo())
                self.assertEqual(twin.table, live.table)
            self.assertEqual(log, before)

    def test_later_changes_of_the_log_have_no_effect(self):
        log = [("add", SIX)]
        live = replayed(PLAIN, log)
        log.append(("add", NINE))
        log[0] = None
        self.assertEqual(log_of(live), [("add", SIX)])

    def test_sixty_rows_and_many_deeds(self):
        log = [("add", ((at, at), at, 1 + at, 1)) for at in range(60)]
        log += [("drop", 59 - at, ((59 - at, 59 - at), 59 - at, 60 - at, 1)) for at in range(60)]
        live = replayed(PLAIN, log * 5)
        self.assertEqual(log_of(live), log * 5)
        self.assertEqual(live.table.rows, ())
        self.assertEqual(first_wrong(PLAIN, log * 5 + [("drop", 0, SIX)]), 600)


if __name__ == "__main__":
    unittest.main()
