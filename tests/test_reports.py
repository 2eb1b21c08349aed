"""Reports: their steps, made and refused, levels, parts, equality, what they tell of tables, further dependences."""

import copy
import itertools
import random
import unittest

from meanways.errors import BadDependence, BadLevel, BadSet, BadWeight, NoTable, NotKept, TooMany
from meanways.forms import form
from meanways.reports import Report
from meanways.schemes import Scheme
from meanways.tables import Table
import reference
from reference import ALL_COLUMNS, dependences_of, sets_of
from some_reports import PAIRS, sets_within, some_report, some_scheme, some_table
from some_values import any_values, compares, raised, refuses, same

PLAIN = Scheme("ab")
CHAINED = Scheme("abc", [("a", "b"), ("bc", "r")])
START = ("start",)
NARROWING = ("summed", "mean", "weighed")
WORDS = {"summed": "sum", "mean": "mean", "weighed": "weighed", "share": "share", "times": "times", "over": "over"}
WEIGHED = ("weighed", "share")


def step(report, word, letters, weight="v"):
    """The report behind a step, its weight left out where it takes none."""
    return getattr(report, word)(letters, *[weight] * (word in WEIGHED))


def long(scheme, parts):
    """A report of so many parts, of the greatest level."""
    report = Report(scheme)
    for _ in range(parts - 1):
        report = report.times("a")
    return report


class Start(unittest.TestCase):

    def test_scheme_level_and_parts(self):
        for columns in ALL_COLUMNS:
            scheme = Scheme(columns, [(columns[0], columns[-1])])
            report = Report(scheme)
            self.assertIsInstance(report.scheme, Scheme)
            self.assertEqual((report.scheme, report.scheme.dependences), (scheme, scheme.dependences))
            self.assertTrue(same((report.level, len(report), report.parts()), (columns + "r", 1, START)))

    def test_by_name(self):
        self.assertEqual(Report(scheme=PLAIN), Report(PLAIN))

    def test_properties_are_not_assigned(self):
        report = Report(PLAIN)
        with self.assertRaises(AttributeError):
            report.scheme = CHAINED
        with self.assertRaises(AttributeError):
            report.level = ""


class Steps(unittest.TestCase):

    def test_levels_and_parts_of_each_kind(self):
        for scheme in PAIRS:
            greatest = reference.closure(scheme, "r")
            for word, letters, weight in itertools.product(WORDS, sets_of(scheme.columns), "vw"):
                report = step(Report(scheme), word, letters, weight)
                level = reference.closure(scheme, letters) if word in NARROWING else greatest
                part = (WORDS[word], START, letters) + (weight,) * (word in WEIGHED)
                self.assertTrue(same((report.level, report.parts(), len(report)), (level, part, 2)), part)
                self.assertEqual(report.scheme, scheme)
                self.assertIs(type(report), Report)

    def test_one_behind_the_other(self):
        report = Report(CHAINED).mean("ac").share("a", "w").times("c").over("").weighed("a", "v").summed("")
        self.assertEqual(report.parts(), (
            "sum", ("weighed", ("over", ("times", ("share", ("mean", START, "ac"), "a", "w"), "c"), ""), "a", "v"), ""))
        self.assertEqual((len(report), report.level), (7, ""))
        self.assertEqual(Report(CHAINED).mean("ac").share("a", "w").level, "abcr")
        self.assertEqual(Report(CHAINED).mean("a").level, "ab")
        self.assertEqual(Report(CHAINED).mean("a").times("c").level, "ab")
        self.assertEqual(Report(CHAINED).mean("a").summed("b").level, "b")

    def test_plus_and_minus(self):
        one, other = Report(PLAIN).mean("a"), Report(PLAIN).summed("ab").mean("a")
        for report, word in ((one + other, "plus"), (one - other, "minus")):
            self.assertEqual(report.parts(), (word, ("mean", START, "a"), ("mean", ("sum", START, "ab"), "a")))
            self.assertEqual((len(report), report.level, report.scheme), (6, "a", PLAIN))
        twice = one + one
        self.assertEqual((len(twice), twice.parts()), (5, ("plus", ("mean", START, "a"), ("mean", START, "a"))))
        self.assertEqual(len(twice - twice), 11)

    def test_by_name(self):
        start = Report(PLAIN)
        for word in WORDS:
            named = {"letters": "a", **({"weight": "w"} if word in WEIGHED else {})}
            self.assertEqual(getattr(start, word)(**named), step(start, word, "a", "w"))
        self.assertEqual(start.weighed("a", weight="v"), start.weighed(weight="v", letters="a"))

    def test_what_is_before_stays(self):
        for scheme in PAIRS:
            for word in WORDS:
                before = Report(scheme).times("").over("")
                parts, length, level = before.parts(), len(before), before.level
                step(before, word, scheme.columns[0])
                before + before
                before - Report(scheme)
                before.under([("", "r")])
                self.assertEqual((before.parts(), len(before), before.level), (parts, length, level))

    def test_a_spread_of_levels_and_parts(self):
        chance = random.Random(11)
        for _ in range(300):
            report = some_report(chance, some_scheme(chance), 9)
            self.assertTrue(same(report.level, reference.level(report.scheme, report.parts())))
            self.assertEqual(len(report), str(report.parts()).count("("))
            self.assertLessEqual(len(report), 12)


class Sets(unittest.TestCase):

    def test_no_set(self):
        for report in (Report(PLAIN), Report(PLAIN).mean("a")):
            for word in WORDS:
                for wrong in [*any_values(), "ra", "abrr", "c", "abc", Report(PLAIN)]:
                    if type(wrong) is not str or wrong not in sets_of("ab"):
                        refuses(self, BadSet, "letters", wrong, step, report, word, wrong)

    def test_sets_of_other_columns(self):
        for columns in ALL_COLUMNS:
            for letters in sets_of("abcd"):
                if letters not in sets_of(columns):
                    for word in WORDS:
                        refuses(self, BadSet, "letters", letters, step, Report(Scheme(columns)), word, letters)

    def test_no_set_ahead_of_all_else(self):
        for word in WEIGHED:
            for weight in ("x", None, "v"):
                refuses(self, BadSet, "letters", "ba", step, Report(PLAIN).mean(""), word, "ba", weight)
                refuses(self, BadSet, "letters", "ba", step, long(PLAIN, 12), word, "ba", weight)
        for word in WORDS:
            refuses(self, BadSet, "letters", None, step, long(PLAIN, 12), word, None)


class Weights(unittest.TestCase):

    def test_no_weight(self):
        for report in (Report(PLAIN), Report(PLAIN).mean("a"), long(PLAIN, 12)):
            for word in WEIGHED:
                for wrong in [*any_values(), "x", "V", "W", "vw", "v ", " w", ("v",), ["w"], {"v": 1}, report]:
                    refuses(self, BadWeight, "weight", wrong, step, report, word, "a", wrong)
                    refuses(self, BadWeight, "weight", wrong, getattr(report, word), weight=wrong, letters="a")

    def test_ahead_of_the_level(self):
        report = Report(PLAIN).mean("a")
        for word in WEIGHED:
            refuses(self, BadWeight, "weight", "x", step, report, word, "b", "x")
            refuses(self, BadLevel, "letters", "b", step, report, word, "b", "w")


class Levels(unittest.TestCase):

    def test_each_level_and_each_set(self):
        for scheme in PAIRS:
            for first, letters in itertools.product(sets_of(scheme.columns), repeat=2):
                report = Report(scheme).summed(first)
                right = set(reference.closure(scheme, letters)) <= set(reference.closure(scheme, first))
                for word in ("summed", "mean", "weighed", "share"):
                    if right:
                        self.assertEqual(len(step(report, word, letters)), 3)
                    else:
                        refuses(self, BadLevel, "letters", letters, step, report, word, letters)
                for word in ("times", "over"):
                    self.assertEqual(step(report, word, letters).level, report.level)

    def test_the_closure_counts(self):
        scheme = Scheme("abc", [("b", "c")])
        refuses(self, BadLevel, "letters", "b", Report(scheme).mean("ab").times("").mean("ac").mean, "b")
        self.assertEqual(Report(scheme).mean("ab").mean("c").level, "c")
        self.assertEqual(Report(scheme).mean("ab").level, "abc")
        keyed = Scheme("ab", [("a", "r")])
        self.assertEqual(Report(keyed).mean("a").mean("b").level, "b")
        self.assertEqual(Report(keyed).mean("a").mean("br").level, "abr")
        refuses(self, BadLevel, "letters", "r", Report(keyed).mean("b").share, "r", "v")

    def test_sums_of_unequal_levels(self):
        for scheme in PAIRS:
            for first, second in itertools.product(sets_of(scheme.columns), repeat=2):
                one, other = Report(scheme).mean(first), Report(scheme).summed(second)
                if one.level == other.level:
                    self.assertEqual((one + other).level, one.level)
                    self.assertEqual((one - other).level, one.level)
                else:
                    refuses(self, BadLevel, "letters", other.level, lambda: one + other)
                    refuses(self, BadLevel, "letters", other.level, lambda: one - other)

    def test_sums_over_unequal_schemes(self):
        one = Report(PLAIN).mean("a")
        for other in (Scheme("ab", [("a", "b")]), Scheme("ab", [("ab", "r")]), Scheme("abc"), Scheme("a"),
                      Scheme("ad")):
            report = Report(other).mean("a")
            refuses(self, BadLevel, "letters", report.level, lambda: one + report)
            refuses(self, BadLevel, "letters", report.level, lambda: one - report)
            refuses(self, BadLevel, "letters", "a", lambda: report - one)

    def test_sums_with_what_is_no_report(self):
        for other in (5, None, "a", PLAIN, START, (1, 1), FOUR):
            for work in (lambda: Report(PLAIN) + other, lambda: Report(PLAIN) - other):
                self.assertRaises(TypeError, work)

    def test_equal_schemes_made_of_other_dependences_are_no_others(self):
        first = Scheme("ab", [("a", "b"), ("b", "r")])
        second = Scheme("ab", [("b", "a"), ("a", "r"), ("a", "b")])
        self.assertEqual(first, second)
        for report in (Report(first).mean("a") + Report(second).mean("b"),
                       Report(first).mean("a") - Report(second).mean("b")):
            self.assertEqual((len(report), report.level, report.scheme), (5, "abr", first))


class Parts(unittest.TestCase):

    def test_up_to_twelve(self):
        for parts in range(1, 12):
            for word in WORDS:
                self.assertEqual(len(step(long(PLAIN, parts), word, "a")), parts + 1)
        for word in WORDS:
            refuses(self, TooMany, "limit", 12, step, long(PLAIN, 12), word, "a")
            refuses(self, TooMany, "limit", 12, step, long(PLAIN, 12), word, "")

    def test_sums(self):
        for first, second in itertools.product(range(1, 13), repeat=2):
            one, other = long(PLAIN, first), long(PLAIN, second)
            for work in (lambda: one + other, lambda: one - other):
                if first + second + 1 <= 12:
                    self.assertEqual(len(work()), first + second + 1)
                else:
                    refuses(self, TooMany, "limit", 12, work)

    def test_behind_all_other_errors(self):
        full = long(PLAIN, 11).mean("a")
        self.assertEqual(len(full), 12)
        for word in WORDS:
            refuses(self, BadSet, "letters", "ba", step, full, word, "ba")
        for word in WEIGHED:
            refuses(self, BadWeight, "weight", "x", step, full, word, "a", "x")
        for word in ("summed", "mean", "weighed", "share"):
            refuses(self, BadLevel, "letters", "b", step, full, word, "b")
        other = Report(PLAIN)
        for work in (lambda: full + other, lambda: full - other):
            refuses(self, BadLevel, "letters", "abr", work)
        for work in (lambda: other + full, lambda: other - full):
            refuses(self, BadLevel, "letters", "a", work)

    def test_refused_steps_change_nothing(self):
        report = long(PLAIN, 11).mean("a")
        before = copy.deepcopy(vars(report))
        for wanted, word, letters, weight in ((BadSet, "mean", "ba", "v"), (BadWeight, "share", "a", "x"),
                                              (BadLevel, "weighed", "b", "v"), (TooMany, "times", "b", "v")):
            raised(self, wanted, step, report, word, letters, weight)
        raised(self, BadLevel, lambda: report + Report(PLAIN))
        raised(self, TooMany, lambda: report - report)
        raised(self, BadDependence, report.under, None)
        raised(self, NoTable, report, None)
        self.assertEqual({name: str(one) for name, one in vars(report).items() if name != "_scheme"},
                         {name: str(one) for name, one in before.items() if name != "_scheme"})
        self.assertEqual((report.scheme.dependences, report.level, len(report)), ((), "a", 12))


class Imitation:
    """Looks like a report, without being one."""

    scheme, level = PLAIN, "abr"

    def __init__(self):
        vars(self).update(vars(Report(PLAIN)))

    def parts(self):
        return START

    def __len__(self):
        return 1


class Equality(unittest.TestCase):

    def some(self):
        """Reports over one scheme, each made in another way."""
        start = Report(Scheme("abc", [("a", "b")]))
        found = [start]
        for word in WORDS:
            for letters in ("", "a", "ab", "c", "r", "abcr"):
                found.append(step(start, word, letters, "v"))
                if word in WEIGHED:
                    found.append(step(start, word, letters, "w"))
        return found + [start + start, start - start, start.mean("a").mean(""), start.mean("c").mean(""),
                        start.summed("a").mean(""), (start + start) - start, start + (start - start),
                        start - (start + start), start.mean("a") + start.mean("ab"), start.mean("ab") + start.mean("a")]

    def test_each_way_is_another_one(self):
        for (at, one), (beside, other) in itertools.product(enumerate(self.some()), enumerate(self.some())):
            compares(self, one, other, at == beside)

    def test_sets_as_passed(self):
        scheme = Scheme("ab", [("a", "b")])
        one, other = Report(scheme).mean("a"), Report(scheme).mean("ab")
        self.assertEqual(one.level, other.level)
        compares(self, one, other, False)
        compares(self, Report(scheme).times("r"), Report(scheme).times("ar"), False)

    def test_other_schemes(self):
        schemes = [PLAIN, Scheme("ab", [("a", "b")]), Scheme("ab", [("ab", "r")]), Scheme("abc"), Scheme("a")]
        for (at, one), (beside, other) in itertools.product(enumerate(schemes), enumerate(schemes)):
            compares(self, Report(one).mean("a"), Report(other).mean("a"), at == beside)

    def test_equal_schemes_made_of_other_dependences(self):
        first = Scheme("ab", [("a", "b"), ("b", "r")])
        second = Scheme("ab", [("b", "a"), ("a", "r")])
        compares(self, Report(first).mean("a"), Report(second).mean("a"), True)
        compares(self, Report(first).mean("a"), Report(second).mean("b"), False)

    def test_values_of_another_kind(self):
        report = Report(PLAIN)
        for other in [*any_values(), Imitation(), START, report.parts(), object(), Report, PLAIN, Table("ab", [])]:
            compares(self, report, other, False)

    def test_comparing_changes_nothing(self):
        one, other = Report(PLAIN).mean("a"), Report(CHAINED)
        compares(self, one, other, False)
        self.assertEqual((one.parts(), one.level), (("mean", START, "a"), "a"))
        self.assertEqual((other.parts(), other.level), (START, "abcr"))


FOUR = Table("ab", [((0, 0), 6, 1, 1), ((0, 0), 6, 2, 1), ((0, 1), 9, 1, 3), ((1, 1), -4, 5, 2)])


class Told(unittest.TestCase):

    def test_the_example(self):
        table = Table("ab", [((0, 0), 6, 1, 1), ((0, 0), 6, 1, 1), ((0, 1), 9, 1, 1)])
        self.assertTrue(same(Report(PLAIN).mean("ab").mean("a")(table), {(0,): (15, 2)}))
        self.assertTrue(same(Report(PLAIN).mean("a")(table), {(0,): (7, 1)}))

    def test_each_kind_in_full(self):
        start = Report(PLAIN)
        for report, wanted in [
            (start, {(0, 0, 0): (6, 1), (0, 0, 1): (6, 1), (0, 1, 2): (9, 1), (1, 1, 3): (-4, 1)}),
            (start.summed("a"), {(0,): (21, 1), (1,): (-4, 1)}),
            (start.summed("b"), {(0,): (12, 1), (1,): (5, 1)}),
            (start.mean("b"), {(0,): (6, 1), (1,): (5, 2)}),
            (start.mean(""), {(): (17, 4)}),
            (start.mean("ab").mean("a").mean(""), {(): (7, 4)}),
            (start.weighed("a", "v"), {(0,): (27, 4), (1,): (-4, 1)}),
            (start.weighed("a", "w"), {(0,): (39, 5), (1,): (-4, 1)}),
            (start.mean("ab").weighed("", "v"), {(): (7, 9)}),
            (start.times("r").mean("a"), {(0,): (7, 1), (1,): (-4, 1)}),
            (start.summed("a").times("b"), {(0,): (42, 1), (1,): (-4, 1)}),
            (start.summed("a").times("r"), {(0,): (63, 1), (1,): (-4, 1)}),
            (start.summed("a").times("a"), {(0,): (21, 1), (1,): (-4, 1)}),
            (start.summed("a").over("r"), {(0,): (7, 1), (1,): (-4, 1)}),
            (start.summed("").over("b"), {(): (17, 2)}),
            (start.share("a", "v"), {(0, 0, 0): (3, 2), (0, 0, 1): (3, 1), (0, 1, 2): (9, 4), (1, 1, 3): (-4, 1)}),
            (start.summed("ab").share("", "w"), {(0, 0): (24, 7), (0, 1): (27, 7), (1, 1): (-8, 7)}),
            (start.summed("a") + start.mean("a"), {(0,): (28, 1), (1,): (-8, 1)}),
            (start.summed("a") - start.mean("a"), {(0,): (14, 1), (1,): (0, 1)}),
        ]:
            self.assertTrue(same(report(FOUR), wanted), report.parts())
            self.assertTrue(same(report(table=FOUR), wanted), report.parts())

    def test_equal_rows(self):
        table = Table("ab", [((0, 0), 6, 1, 1)] * 3)
        self.assertEqual(Report(PLAIN)(table), {(0, 0, 0): (6, 1), (0, 0, 1): (6, 1), (0, 0, 2): (6, 1)})
        self.assertEqual(Report(PLAIN).summed("ab")(table), {(0, 0): (18, 1)})
        self.assertEqual(Report(PLAIN).mean("ab")(table), {(0, 0): (6, 1)})
        self.assertEqual(Report(PLAIN).mean("ab").times("r")(table), {(0, 0): (18, 1)})

    def test_no_rows(self):
        chance = random.Random(12)
        for scheme in PAIRS:
            for _ in range(20):
                self.assertTrue(same(some_report(chance, scheme)(Table(scheme.columns, [])), {}))
            self.assertEqual(Report(scheme).summed("")(Table(scheme.columns, [])), {})

    def test_the_empty_level(self):
        self.assertEqual(Report(PLAIN).summed("")(FOUR), {(): (17, 1)})
        self.assertEqual(Report(Scheme("ab", [("", "a")])).summed("")(Table("ab", FOUR.rows[:3])), {(0,): (21, 1)})

    def test_r_in_the_level(self):
        scheme = Scheme("ab", [("a", "r")])
        table = Table("ab", [((4, 1), 2, 1, 1), ((3, 1), 5, 1, 1)])
        self.assertEqual(Report(scheme).mean("a").level, "abr")
        self.assertEqual(list(Report(scheme).mean("a")(table).items()), [((3, 1, 1), (5, 1)), ((4, 1, 0), (2, 1))])
        self.assertEqual(Report(PLAIN).mean("r")(table), {(3, 1, 1): (5, 1), (4, 1, 0): (2, 1)})
        self.assertEqual(Report(Scheme("ab", [("", "r")])).mean("")(Table("ab", FOUR.rows[:1])), {(0, 0, 0): (6, 1)})

    def test_names_ascending(self):
        rows = [((10,), 1, 1, 1), ((9,), 2, 1, 1), ((2,), 3, 1, 1), ((10,), 4, 1, 1), ((0,), 5, 1, 1)]
        table = Table("c", rows)
        self.assertEqual(list(Report(Scheme("c")).summed("c")(table).items()),
                         [((0,), (5, 1)), ((2,), (3, 1)), ((9,), (2, 1)), ((10,), (5, 1))])
        self.assertEqual(list(Report(Scheme("c"))(table)), [(0, 4), (2, 2), (9, 1), (10, 0), (10, 3)])
        table = Table("ab", [((1, 0), 1, 1, 1), ((0, 7), 1, 1, 1), ((0, 6), 1, 1, 1), ((1, 0), 1, 1, 1)])
        self.assertEqual(list(Report(PLAIN)(table)), [(0, 6, 2), (0, 7, 1), (1, 0, 0), (1, 0, 3)])

    def test_a_new_dict_each_time(self):
        report = Report(PLAIN).mean("a")
        first = report(FOUR)
        wanted = dict(first)
        first.clear()
        first[(9,)] = (1, 1)
        self.assertEqual(report(FOUR), wanted)
        self.assertIsNot(report(FOUR), report(FOUR))

    def test_the_table_and_the_report_stay(self):
        report = Report(PLAIN).mean("ab").share("a", "v")
        table = Table("ab", FOUR.rows)
        report(table)
        self.assertEqual(table, FOUR)
        self.assertEqual(report, Report(PLAIN).mean("ab").share("a", "v"))

    def test_each_step_behind_each_level(self):
        chance = random.Random(13)
        for scheme in PAIRS:
            table = some_table(chance, scheme)
            for first in sets_of(scheme.columns):
                report = Report(scheme).mean(first)
                for word in WORDS:
                    fit = sets_of(scheme.columns) if word in ("times", "over") else sets_within(scheme, report.level)
                    for letters in fit:
                        self.check(step(report, word, letters, chance.choice("vw")), table)

    def check(self, report, table):
        wanted = reference.named(report.scheme, report.parts(), table)
        self.assertTrue(same(report(table), wanted), (report.scheme.dependences, report.parts(), table.rows))

    def test_a_spread(self):
        chance = random.Random(14)
        for _ in range(500):
            scheme = some_scheme(chance)
            report = some_report(chance, scheme)
            for _ in range(2):
                self.check(report, some_table(chance, scheme))

    def test_long_reports(self):
        chance = random.Random(15)
        for _ in range(60):
            scheme = some_scheme(chance)
            self.check(some_report(chance, scheme, 11), some_table(chance, scheme))

    def test_great_numbers_and_many_rows(self):
        great = 10 ** 6
        rows = [((at // 10, at // 3), great - at * at * at, great - at, 1 + at * at) for at in range(100)]
        table = Table("ab", rows)
        start = Report(PLAIN)
        for report in (start.weighed("ab", "v").weighed("a", "w").mean(""), start.share("a", "v").over("b"),
                       start.mean("b").times("a").summed("").times("ab")):
            self.check(report, table)


class Refused(unittest.TestCase):

    def test_no_table(self):
        for report in (Report(PLAIN), Report(PLAIN).mean("a"), Report(Scheme("ab", [("", "r")]))):
            wrong = [*any_values(), FOUR.rows, list(FOUR.rows), ("ab", FOUR.rows), report, Imitation()]
            wrong += [Table(columns, []) for columns in ALL_COLUMNS if columns != "ab"]
            for value in [*wrong, Table("ac", FOUR.rows), Table("a", [((0,), 1, 1, 1)])]:
                raised(self, NoTable, report, value)
                raised(self, NoTable, report, table=value)

    def test_not_kept(self):
        for dependences, wanted in ([("a", "b")], 0), ([("r", "a"), ("ab", "r"), ("a", "b")], 1), ([("b", "r")] * 2, 0):
            scheme = Scheme("ab", dependences)
            for report in (Report(scheme), Report(scheme).mean(""), Report(scheme).times("a")):
                refuses(self, NotKept, "at", wanted, report, FOUR)
        self.assertEqual(len(Report(Scheme("ab", [("abr", "a")]))(FOUR)), 4)

    def test_the_number_is_that_of_its_own_scheme(self):
        first = Scheme("ab", [("b", "b"), ("a", "b")])
        second = Scheme("ab", [("a", "b")])
        self.assertEqual(Report(first), Report(second))
        refuses(self, NotKept, "at", 1, Report(first), FOUR)
        refuses(self, NotKept, "at", 0, Report(second), FOUR)

    def test_a_spread_of_broken_tables(self):
        chance = random.Random(16)
        for _ in range(200):
            scheme = some_scheme(chance)
            rows = some_table(chance, Scheme(scheme.columns), 5).rows
            wrong = [at for at, one in enumerate(scheme.dependences) if not reference.keeps(scheme.columns, rows, one)]
            table = Table(scheme.columns, rows)
            if wrong:
                refuses(self, NotKept, "at", wrong[0], some_report(chance, scheme), table)
            else:
                some_report(chance, scheme)(table)


class Under(unittest.TestCase):

    def test_the_same_steps_over_the_scheme_with_more(self):
        report = Report(Scheme("abc", [("b", "a")])).mean("bc").share("c", "v").summed("b").times("c")
        for more in ([("c", "a")], (("c", "a"),)):
            for told in (report.under(more), report.under(dependences=more)):
                self.assertIs(type(told), Report)
                self.assertEqual(told.scheme.dependences, (("b", "a"), ("c", "a")))
                self.assertEqual(told.parts(), report.parts())
                self.assertEqual((told.level, len(told)), ("ab", 5))
        self.assertEqual(report.under([("b", "r")]).level, "abcr")
        self.assertEqual(report.under([("a", "c")]).level, "abc")
        self.assertEqual(report.under([]), report)
        self.assertEqual(report.scheme.dependences, (("b", "a"),))
        self.assertEqual(report.level, "ab")

    def test_equal_to_the_report_made_over_that_scheme(self):
        first = Scheme("ab")
        second = Scheme("ab", [("a", "b")])
        for work in (lambda scheme: Report(scheme).mean("a"), lambda scheme: Report(scheme).share("b", "w").over("a"),
                     lambda scheme: Report(scheme).weighed("a", "v") - Report(scheme).times("b").mean("a")):
            self.assertEqual(work(first).under([("a", "b")]), work(second))
            self.assertNotEqual(work(first).under([("b", "a")]), work(second))

    def test_reports_of_twelve_parts(self):
        self.assertEqual(len(long(PLAIN, 12).under([("a", "b")])), 12)

    def test_further_steps_go_by_the_new_closures(self):
        report = Report(Scheme("abc")).mean("ab").under([("a", "c")])
        self.assertEqual(report.level, "abc")
        self.assertEqual(report.mean("c").level, "c")
        self.assertEqual(report.mean("a").level, "ac")

    def test_what_it_tells(self):
        chance = random.Random(17)
        for _ in range(200):
            scheme = some_scheme(chance)
            report = some_report(chance, scheme)
            more = chance.sample(dependences_of(scheme.columns), chance.choice((0, 1, 1, 2)))
            told = report.under(more)
            self.assertEqual(told.parts(), report.parts())
            self.assertEqual(told.level, reference.level(told.scheme, report.parts()))
            table = some_table(chance, told.scheme)
            self.assertTrue(same(told(table), reference.named(told.scheme, report.parts(), table)))
            self.assertEqual(sorted(report(table).values()), sorted(told(table).values()))

    def test_errors_as_with_more(self):
        full = Report(Scheme("ab", [("a", "b")] * 19)).mean("a")
        self.assertEqual(len(full.under([("b", "a")]).scheme.dependences), 20)
        refuses(self, TooMany, "limit", 20, full.under, [("b", "a")] * 2)
        refuses(self, BadDependence, "at", 1, full.under, [("b", "a"), ("b", "c")])
        refuses(self, BadDependence, "at", 20, full.under, [("b", "a")] * 21)
        refuses(self, BadDependence, "at", 0, full.under, [["a", "b"]])
        for value in any_values():
            if not isinstance(value, (list, tuple)):
                refuses(self, BadDependence, "at", None, full.under, value)
        self.assertEqual((len(full.scheme.dependences), full.level), (19, "ab"))

    def test_a_later_change_of_the_list_has_no_effect(self):
        given = [("a", "b")]
        report = Report(PLAIN).under(given)
        given.append(("", "r"))
        self.assertEqual((report.scheme.dependences, form(report)), ((("a", "b"),), ("abr", (((), 1),))))


if __name__ == "__main__":
    unittest.main()
