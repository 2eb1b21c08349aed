"""Live tables: rows that come and go, what they tell, what has changed, undo, blocks and copies."""

import random
import unittest

from meanways.errors import BadLevel, BadRow, NoPlace, NothingLeft, NotKept
from meanways.live import Live
from meanways.logs import log_of
from meanways.reports import Report
from meanways.schemes import Scheme
from meanways.tables import Table
import reference
from some_reports import PAIRS, some_report, some_row, some_scheme
from some_values import any_values, raised, refuses, same

PLAIN = Scheme("ab")
SIX, NINE, TWO = ((0, 0), 6, 1, 1), ((0, 1), 9, 1, 1), ((1, 0), 2, 3, 4)


class Stop(Exception):
    pass


class Model:
    """A live table as a list of rows and a list of deeds."""

    def __init__(self, scheme, rows=(), deeds=()):
        self.scheme = scheme
        self.rows = list(rows)
        self.deeds = list(deeds)

    def copy(self):
        return Model(self.scheme, self.rows, self.deeds)

    def broken(self, rows):
        for at, dependence in enumerate(self.scheme.dependences):
            if not reference.keeps(self.scheme.columns, rows, dependence):
                return at
        return None

    def add(self, row):
        self.rows.append(row)
        self.deeds.append(("add", row))

    def drop(self, at):
        self.deeds.append(("drop", at, self.rows.pop(at)))

    def undo(self):
        deed = self.deeds.pop()
        if deed[0] == "add":
            self.rows.pop()
        else:
            self.rows.insert(deed[1], deed[2])

    def tell(self, report):
        return reference.named(self.scheme, report.parts(), Table(self.scheme.columns, self.rows))

    def changed(self, report):
        before = self.copy()
        before.undo()
        return reference.lost_or_changed(before.tell(report), self.tell(report))


def is_like(test, live, model):
    """Checks that a live table has the rows of the model, and that the same stands in it."""
    test.assertIs(type(live.table), Table)
    test.assertEqual(live.table.columns, model.scheme.columns)
    test.assertTrue(same(live.table.rows, tuple(model.rows)), (live.table.rows, model.rows))
    test.assertTrue(same(log_of(live), model.deeds))


def filled(scheme, rows):
    live = Live(scheme)
    for row in rows:
        live.add(row)
    return live


class RowsThatComeAndGo(unittest.TestCase):

    def test_at_first(self):
        for scheme in PAIRS:
            for live in (Live(scheme), Live(scheme=scheme)):
                self.assertIs(live.scheme, scheme)
                is_like(self, live, Model(scheme))
                self.assertEqual(live.table, Table(scheme.columns, []))

    def test_in_full(self):
        live = Live(PLAIN)
        self.assertTrue(same([live.add(SIX), live.add(row=SIX), live.add(NINE), live.add(TWO)], [0, 1, 2, 3]))
        self.assertEqual(live.table, Table("ab", [SIX, SIX, NINE, TWO]))
        self.assertTrue(same(live.drop(2), NINE))
        self.assertEqual(live.table, Table("ab", [SIX, SIX, TWO]))
        self.assertTrue(same(live.drop(at=2), TWO))
        self.assertTrue(same(live.drop(0), SIX))
        self.assertTrue(same(live.add(TWO), 1))
        self.assertEqual(live.table, Table("ab", [SIX, TWO]))
        self.assertTrue(same([live.drop(0), live.drop(0)], [SIX, TWO]))
        self.assertEqual(live.table, Table("ab", []))

    def test_a_table_that_was_asked_for_stays(self):
        live = filled(PLAIN, [SIX, NINE])
        table = live.table
        live.add(TWO)
        live.drop(0)
        self.assertEqual(table.rows, (SIX, NINE))

    def test_bad_rows(self):
        live = filled(PLAIN, [SIX])
        wrong = [
            [(0, 0), 6, 1, 1], ([0, 0], 6, 1, 1), ((0,), 6, 1, 1), ((0, 0, 0), 6, 1, 1), ((0, -1), 6, 1, 1),
            ((0, 0), 6, 0, 1), ((0, 0), 6, 1, 0), ((0, 0), 6, -1, 1), ((0, 0), 6, 1), ((0, 0), 6, 1, 1, 1),
            ((True, 0), 6, 1, 1), ((0, False), 6, 1, 1), ((0, 0), True, 1, 1), ((0, 0), 6, True, 1),
            ((0, 0), 6, 1, True),
            (("0", 0), 6, 1, 1), ((0, 0), "6", 1, 1), ((0, 0), None, 1, 1), ((0, 0), (6, 1), 1, 1),
            (0, 0, 6, 1, 1), (SIX,),
        ]
        for value in [*any_values(), *wrong, live, live.table, Report(PLAIN), PLAIN]:
            refuses(self, BadRow, "at", None, live.add, value)
            refuses(self, BadRow, "at", None, live.add, row=value)
        is_like(self, live, Model(PLAIN, [SIX], [("add", SIX)]))

    def test_the_row_ahead_of_the_dependences(self):
        live = filled(Scheme("ab", [("", "a")]), [SIX])
        refuses(self, BadRow, "at", None, live.add, ((1, 0), 6, 1, 0))
        refuses(self, NotKept, "at", 0, live.add, ((1, 0), 6, 1, 1))

    def test_not_kept(self):
        live = filled(Scheme("ab", [("ab", "a"), ("a", "b"), ("b", "r"), ("a", "r")]), [SIX])
        for at, row in ((1, NINE), (2, TWO), (2, SIX), (2, ((0, 0), 1, 2, 3)), (1, ((0, 5), 6, 1, 1))):
            refuses(self, NotKept, "at", at, live.add, row)
            is_like(self, live, Model(live.scheme, [SIX], [("add", SIX)]))
        self.assertEqual(live.add(((1, 1), 6, 1, 1)), 1)
        for at, row in ((1, ((1, 0), 6, 1, 1)), (2, ((2, 0), 6, 1, 1)), (1, ((0, 1), 6, 1, 1))):
            refuses(self, NotKept, "at", at, live.add, row)
        live.drop(0)
        self.assertEqual(live.add(((2, 0), 6, 1, 1)), 1)

    def test_no_place(self):
        for rows in ([], [SIX], [SIX, NINE, TWO]):
            live = filled(PLAIN, rows)
            wrong = [value for value in any_values() if type(value) is not int or not 0 <= value < len(rows)]
            for value in [*wrong, len(rows), -1, -len(rows), live, live.table]:
                if type(value) is not int or not 0 <= value < len(rows):
                    refuses(self, NoPlace, "place", value, live.drop, value)
                    refuses(self, NoPlace, "place", value, live.drop, at=value)
            is_like(self, live, Model(PLAIN, rows, [("add", row) for row in rows]))

    def test_sixty_rows(self):
        scheme = Scheme("abcd", [("ab", "c")])
        live, rows = Live(scheme), []
        for at in range(60):
            rows.append(((at // 8, at, at % 3, 10 ** 6 - at), (-1) ** at * 10 ** 6, 10 ** 6, 10 ** 6 - at))
            self.assertEqual(live.add(rows[-1]), at)
        self.assertEqual(live.table.rows, tuple(rows))
        report = Report(scheme).weighed("abc", "v").mean("a").share("", "w")
        self.assertEqual(live.tell(report), reference.named(scheme, report.parts(), live.table))
        for _ in range(59):
            self.assertEqual(live.drop(len(rows) // 2), rows.pop(len(rows) // 2))
        self.assertEqual(live.table.rows, tuple(rows))
        for _ in range(119):
            live.undo()
        is_like(self, live, Model(scheme))


class Told(unittest.TestCase):

    def test_in_full(self):
        live = filled(PLAIN, [SIX, SIX, NINE])
        report = Report(PLAIN).mean("ab").mean("a")
        for told in (live.tell(report), live.tell(report=report)):
            self.assertTrue(same(told, {(0,): (15, 2)}))
        live.add(TWO)
        self.assertTrue(same(live.tell(report), {(0,): (15, 2), (1,): (2, 1)}))
        live.drop(0)
        live.drop(0)
        self.assertTrue(same(live.tell(report), {(0,): (9, 1), (1,): (2, 1)}))
        self.assertTrue(same(live.tell(Report(PLAIN)), {(0, 1, 0): (9, 1), (1, 0, 1): (2, 1)}))
        live.undo()
        live.undo()
        live.undo()
        self.assertTrue(same(live.tell(report), {(0,): (15, 2)}))
        self.assertEqual(Live(PLAIN).tell(report), {})

    def test_what_is_told_is_the_callers_own(self):
        live, report = filled(PLAIN, [SIX]), Report(PLAIN)
        live.tell(report).clear()
        live.changed(report).clear()
        self.assertEqual(live.tell(report), {(0, 0, 0): (6, 1)})
        self.assertEqual(live.changed(report), [(0, 0, 0)])

    def test_equal_schemes_made_of_other_dependences(self):
        first, second = Scheme("ab", [("a", "b"), ("b", "r")]), Scheme("ab", [("b", "a"), ("a", "r")])
        live = filled(first, [SIX, ((1, 1), 4, 2, 3)])
        for report in (Report(first).weighed("", "v"), Report(second).weighed("", "v")):
            self.assertEqual(live.tell(report), {(): (14, 3)})
            self.assertEqual(live.changed(report), [()])

    def test_other_schemes(self):
        live = filled(PLAIN, [SIX])
        for scheme in (Scheme("ab", [("a", "b")]), Scheme("ab", [("ab", "r")]), Scheme("a"), Scheme("abc")):
            for report in (Report(scheme).mean("a"), Report(scheme), Report(scheme).mean("")):
                for work in (live.tell, live.changed, Live(PLAIN).tell, Live(PLAIN).changed):
                    refuses(self, BadLevel, "letters", report.level, work, report)
                    refuses(self, BadLevel, "letters", report.level, work, report=report)
        is_like(self, live, Model(PLAIN, [SIX], [("add", SIX)]))


class Changed(unittest.TestCase):

    def check(self, live, report, wanted):
        self.assertTrue(same(live.changed(report), wanted), live.changed(report))
        self.assertTrue(same(live.changed(report=report), wanted))

    def test_in_full(self):
        start = Report(PLAIN)
        live = filled(PLAIN, [SIX, SIX])
        mean, steps, by_pairs = start.mean("a"), start.mean("ab").mean("a"), start.summed("ab")
        self.check(live, mean, [])
        self.check(live, by_pairs, [(0, 0)])
        self.check(live, start, [(0, 0, 1)])
        live.add(NINE)
        self.check(live, mean, [(0,)])
        self.check(live, by_pairs, [(0, 1)])
        live.add(TWO)
        self.check(live, mean, [(1,)])
        self.check(live, steps, [(1,)])
        self.check(live, start.mean(""), [()])
        live.drop(1)
        self.check(live, steps, [])
        self.check(live, mean, [(0,)])
        self.check(live, by_pairs, [(0, 0)])
        self.check(live, start, [(0, 0, 1), (0, 1, 1), (0, 1, 2), (1, 0, 2), (1, 0, 3)])
        live.undo()
        self.check(live, mean, [(1,)])
        self.check(live, start, [(1, 0, 3)])
        live.undo()
        self.check(live, start, [(0, 1, 2)])
        live.drop(2)
        self.check(live, by_pairs, [(0, 1)])

    def test_names_in_their_order_as_numbers(self):
        live = filled(Scheme("a"), [((key,), 1, 1, 1) for key in (10, 9, 100, 0, 11)])
        total = Report(Scheme("a")).share("", "v")
        self.check(live, total.mean("a"), [(0,), (9,), (10,), (11,), (100,)])
        self.check(live, total, [(0, 3), (9, 1), (10, 0), (11, 4), (100, 2)])

    def test_a_group_that_goes_or_comes_tells_0(self):
        start = Report(PLAIN).summed("a")
        live = filled(PLAIN, [((3, 0), 0, 1, 1)])
        self.check(live, start, [(3,)])
        live.add(((3, 0), 0, 1, 1))
        self.check(live, start, [])
        live.drop(0)
        self.check(live, start, [])
        live.drop(0)
        self.check(live, start, [(3,)])
        self.check(live, start - start, [(3,)])

    def test_nothing_left(self):
        live, report = Live(PLAIN), Report(PLAIN)
        raised(self, NothingLeft, live.changed, report)
        raised(self, NothingLeft, live.changed, report=report)
        live.add(SIX)
        live.undo()
        raised(self, NothingLeft, live.changed, report)
        refuses(self, BadLevel, "letters", "a", live.changed, Report(Scheme("a")).mean("a"))


class Undone(unittest.TestCase):

    def test_in_full(self):
        live = filled(PLAIN, [SIX, NINE, TWO])
        live.drop(1)
        live.drop(0)
        model = [[SIX, TWO], [SIX, NINE, TWO], [SIX, NINE], [SIX], []]
        for rows in model:
            self.assertIsNone(live.undo())
            self.assertEqual(live.table.rows, tuple(rows))
        raised(self, NothingLeft, live.undo)
        is_like(self, live, Model(PLAIN))

    def test_what_was_taken_back_does_not_stand(self):
        live = filled(PLAIN, [SIX, NINE])
        live.undo()
        live.add(TWO)
        is_like(self, live, Model(PLAIN, [SIX, TWO], [("add", SIX), ("add", TWO)]))
        live.undo()
        live.undo()
        raised(self, NothingLeft, live.undo)

    def test_what_was_refused_is_not_taken_back(self):
        live = filled(Scheme("ab", [("a", "r")]), [SIX])
        raised(self, NotKept, live.add, NINE)
        raised(self, BadRow, live.add, None)
        raised(self, NoPlace, live.drop, 1)
        live.undo()
        self.assertEqual(live.table.rows, ())
        raised(self, NothingLeft, live.undo)

    def test_all_kinds(self):
        chance = random.Random(70)
        for _ in range(120):
            scheme = chance.choice(PAIRS) if chance.random() < 0.7 else some_scheme(chance)
            live, model = Live(scheme), Model(scheme)
            reports = [some_report(chance, scheme, 3) for _ in range(3)]
            for _ in range(25):
                deed(self, chance, live, model)
                is_like(self, live, model)
            for report in reports:
                self.assertTrue(same(live.tell(report), model.tell(report)))
                if model.deeds:
                    self.assertTrue(same(live.changed(report), model.changed(report)))


def deed(test, chance, live, model):
    """One deed, in the live table and in the model."""
    word = chance.choice(("add", "add", "add", "drop", "undo"))
    if word == "add":
        row = some_row(chance, live.scheme.columns)
        at = model.broken(model.rows + [row])
        if at is None:
            test.assertEqual(live.add(row), len(model.rows))
            model.add(row)
        else:
            refuses(test, NotKept, "at", at, live.add, row)
    elif word == "drop":
        at = chance.randint(-1, len(model.rows))
        if 0 <= at < len(model.rows):
            test.assertEqual(live.drop(at), model.rows[at])
            model.drop(at)
        else:
            refuses(test, NoPlace, "place", at, live.drop, at)
    elif model.deeds:
        test.assertIsNone(live.undo())
        model.undo()
    else:
        raised(test, NothingLeft, live.undo)


class Blocks(unittest.TestCase):

    def test_a_block_that_ends_well(self):
        live = filled(PLAIN, [SIX])
        with live as same_one:
            self.assertIs(same_one, live)
            live.add(NINE)
            same_one.drop(0)
        is_like(self, live, Model(PLAIN, [NINE], [("add", SIX), ("add", NINE), ("drop", 0, SIX)]))
        live.undo()
        self.assertEqual(live.table.rows, (SIX, NINE))

    def test_a_block_that_an_exception_leaves(self):
        for error in (Stop, KeyError, KeyboardInterrupt, SystemExit, BadRow(None), NothingLeft("")):
            live = filled(PLAIN, [SIX, NINE])
            live.drop(0)
            model = Model(PLAIN, [NINE], [("add", SIX), ("add", NINE), ("drop", 0, SIX)])
            with self.assertRaises(type(error) if isinstance(error, Exception) else error):
                with live:
                    live.add(TWO)
                    live.drop(0)
                    raise error
            is_like(self, live, model)
            live.undo()
            model.undo()
            is_like(self, live, model)

    def test_the_exception_itself_goes_on(self):
        live, error = Live(PLAIN), Stop("here")
        with self.assertRaises(Stop) as held:
            with live:
                raise error
        self.assertIs(held.exception, error)

    def test_a_block_that_takes_back_what_came_ahead_of_it(self):
        for stops in (True, False):
            live = filled(PLAIN, [SIX, NINE])
            live.drop(0)
            try:
                with live:
                    live.undo()
                    live.undo()
                    self.assertEqual(live.table.rows, (SIX,))
                    live.add(TWO)
                    if stops:
                        raise Stop
            except Stop:
                pass
            if stops:
                model = Model(PLAIN, [NINE], [("add", SIX), ("add", NINE), ("drop", 0, SIX)])
            else:
                model = Model(PLAIN, [SIX, TWO], [("add", SIX), ("add", TWO)])
            while model.deeds:
                is_like(self, live, model)
                live.undo()
                model.undo()
            raised(self, NothingLeft, live.undo)

    def test_nested_blocks(self):
        live = filled(PLAIN, [SIX])
        with live:
            live.add(NINE)
            with self.assertRaises(Stop):
                with live as inner:
                    inner.add(TWO)
                    inner.drop(0)
                    raise Stop
            self.assertEqual(live.table.rows, (SIX, NINE))
            with live:
                live.add(TWO)
            self.assertEqual(live.table.rows, (SIX, NINE, TWO))
        self.assertEqual(live.table.rows, (SIX, NINE, TWO))
        with self.assertRaises(Stop):
            with live:
                live.drop(0)
                with live:
                    live.drop(0)
                self.assertEqual(live.table.rows, (TWO,))
                raise Stop
        is_like(self, live, Model(PLAIN, [SIX, NINE, TWO], [("add", SIX), ("add", NINE), ("add", TWO)]))

    def test_blocks_one_after_another(self):
        live = Live(PLAIN)
        for row, stops in ((SIX, False), (NINE, True), (TWO, False), (SIX, True)):
            try:
                with live:
                    live.add(row)
                    if stops:
                        raise Stop
            except Stop:
                pass
        self.assertEqual(live.table.rows, (SIX, TWO))

    def test_an_error_that_is_caught_in_the_block(self):
        live = filled(PLAIN, [SIX])
        with live:
            live.add(NINE)
            raised(self, BadRow, live.add, None)
            raised(self, NoPlace, live.drop, 2)
        self.assertEqual(live.table.rows, (SIX, NINE))

    def test_a_block_that_is_left_by_return_or_break(self):
        live = Live(PLAIN)

        def work():
            with live:
                live.add(SIX)
                return 7

        self.assertEqual(work(), 7)
        for _ in range(3):
            with live:
                live.add(NINE)
                break
        self.assertEqual(live.table.rows, (SIX, NINE))

    def test_two_live_tables_in_blocks(self):
        one, other = filled(PLAIN, [SIX]), filled(PLAIN, [NINE])
        with self.assertRaises(Stop):
            with one:
                one.add(TWO)
                with other:
                    other.add(TWO)
                raise Stop
        self.assertEqual((one.table.rows, other.table.rows), ((SIX,), (NINE, TWO)))

    def test_all_kinds(self):
        chance = random.Random(71)
        self.ended = {True: 0, False: 0}
        for _ in range(150):
            live, model = Live(chance.choice(PAIRS)), None
            model = Model(live.scheme)
            model = self.some_blocks(chance, live, model, 3)
            while model.deeds:
                is_like(self, live, model)
                live.undo()
                model.undo()
            raised(self, NothingLeft, live.undo)
        self.assertGreater(min(self.ended.values()), 100)

    def some_blocks(self, chance, live, model, depth):
        """Deeds and blocks by chance; the model as it is behind them."""
        for _ in range(chance.randint(1, 5)):
            if depth and chance.random() < 0.4:
                before = model.copy()
                stops = chance.random() < 0.5
                try:
                    with live:
                        model = self.some_blocks(chance, live, model, depth - 1)
                        if stops:
                            raise Stop
                except Stop:
                    model = before
                self.ended[stops] += 1
            else:
                deed(self, chance, live, model)
            is_like(self, live, model)
        return model


class Attempts(unittest.TestCase):

    def test_a_work_that_ends_well(self):
        live = filled(PLAIN, [SIX])
        seen = []

        def work(given):
            seen.append(given)
            return [given.add(NINE)]

        self.assertEqual(live.attempt(work), [1])
        self.assertEqual(live.attempt(work=work), [2])
        self.assertTrue(all(given is live for given in seen))
        self.assertIsNone(live.attempt(lambda given: None))
        self.assertEqual(live.table.rows, (SIX, NINE, NINE))
        live.undo()
        self.assertEqual(live.table.rows, (SIX, NINE))

    def test_a_work_that_an_exception_ends(self):
        live = filled(PLAIN, [SIX, NINE])
        error = Stop("here")

        def work(given):
            given.drop(0)
            given.undo()
            given.undo()
            given.undo()
            given.add(TWO)
            raise error

        with self.assertRaises(Stop) as held:
            live.attempt(work)
        self.assertIs(held.exception, error)
        is_like(self, live, Model(PLAIN, [SIX, NINE], [("add", SIX), ("add", NINE)]))
        refuses(self, NoPlace, "place", 5, live.attempt, lambda given: given.drop(5))
        refuses(self, BadRow, "at", None, live.attempt, lambda given: [given.drop(0), given.add(None)])
        is_like(self, live, Model(PLAIN, [SIX, NINE], [("add", SIX), ("add", NINE)]))

    def test_within_one_another(self):
        live = Live(PLAIN)

        def inner(given):
            given.add(NINE)
            raise Stop

        def outer(given):
            given.add(SIX)
            raised(self, Stop, given.attempt, inner)
            return given.table.rows

        self.assertEqual(live.attempt(outer), (SIX,))
        self.assertEqual(live.table.rows, (SIX,))


class Copies(unittest.TestCase):

    def test_all_that_stands(self):
        live = filled(PLAIN, [SIX, NINE])
        live.drop(0)
        twin = live.copy()
        self.assertIs(type(twin), Live)
        self.assertIsNot(twin, live)
        self.assertEqual(twin.scheme, live.scheme)
        model = Model(PLAIN, [NINE], [("add", SIX), ("add", NINE), ("drop", 0, SIX)])
        while model.deeds:
            is_like(self, twin, model)
            twin.undo()
            model.undo()
        raised(self, NothingLeft, twin.undo)
        is_like(self, live, Model(PLAIN, [NINE], [("add", SIX), ("add", NINE), ("drop", 0, SIX)]))

    def test_independent(self):
        live = filled(PLAIN, [SIX])
        twin = live.copy()
        live.add(NINE)
        twin.add(TWO)
        twin.add(TWO)
        is_like(self, live, Model(PLAIN, [SIX, NINE], [("add", SIX), ("add", NINE)]))
        is_like(self, twin, Model(PLAIN, [SIX, TWO, TWO], [("add", SIX), ("add", TWO), ("add", TWO)]))
        live.undo()
        live.undo()
        self.assertEqual(twin.table.rows, (SIX, TWO, TWO))
        self.assertEqual(twin.changed(Report(PLAIN)), [(1, 0, 2)])

    def test_a_copy_of_a_block_is_in_none(self):
        live = filled(PLAIN, [SIX])
        with self.assertRaises(Stop):
            with live:
                live.add(NINE)
                twin = live.copy()
                twin.add(TWO)
                raise Stop
        self.assertEqual(live.table.rows, (SIX,))
        is_like(self, twin, Model(PLAIN, [SIX, NINE, TWO], [("add", SIX), ("add", NINE), ("add", TWO)]))
        with self.assertRaises(Stop):
            with twin:
                twin.undo()
                raise Stop
        self.assertEqual(twin.table.rows, (SIX, NINE, TWO))

    def test_a_copy_goes_through_blocks_of_its_own(self):
        live = Live(PLAIN)
        with live:
            live.add(SIX)
            twin = live.copy()
            with self.assertRaises(Stop):
                with twin:
                    twin.add(NINE)
                    live.add(TWO)
                    raise Stop
        self.assertEqual((live.table.rows, twin.table.rows), ((SIX, TWO), (SIX,)))

    def test_equal_to_no_value_of_another_kind(self):
        live = Live(PLAIN)
        for value in [*any_values(), live.table, Report(PLAIN)]:
            self.assertIs(live == value, False)
            self.assertIs(live != value, True)


if __name__ == "__main__":
    unittest.main()
