"""The desk: what it answers to rows of words."""

import itertools
import random
import unittest

from meanways.desk import Desk
from meanways.forms import form
from meanways.live import Live
from meanways.logs import log_of
from meanways.parting import alike
from meanways.reports import Report
from meanways.schemes import Scheme
import grammar
import reference
from some_reports import PAIRS, beside, some_report, some_row, some_scheme
from some_values import any_values

PLAIN = Scheme("ab")
FORTY = "9" * 40


def figures(numbers):
    return ",".join(str(number) for number in numbers) or "-"


def fraction_text(worth):
    return str(worth[0]) if worth[1] == 1 else f"{worth[0]}/{worth[1]}"


def told_text(told):
    return "; ".join(f"{figures(name)}: {fraction_text(told[name])}" for name in told) or "none"


def form_text(terms):
    words = []
    for product, times in terms:
        factors = [f"many({fine or '-'},{coarse or '-'})^{power}" if kind == "many"
                   else f"total({fine},{coarse or '-'})^{power}" for kind, fine, coarse, power in product]
        words.append(" ".join([str(times), *factors]))
    return "; ".join(words) or "0"


class Talk(unittest.TestCase):

    def talk(self, desk, *rows):
        """Says each row, and checks that the answer is the one that stands behind it."""
        for row, wanted in rows:
            told = desk.say(row)
            self.assertIs(type(told), str)
            self.assertEqual(told, wanted, row)


class Deeds(Talk):

    def test_in_full(self):
        for desk in (Desk(PLAIN), Desk(scheme=PLAIN)):
            self.talk(desk, ("rows", "0"), ("undo", "error nothingleft"), ("drop 0", "error noplace"),
                      ("add 0 0 6 1 1", "0"), ("add 0 0 6 1 1", "1"), ("rows", "2"), ("add 0 1 -9 1 12", "2"),
                      ("tell x", "0,0,0: 6; 0,0,1: 6; 0,1,2: -9"), ("drop 3", "error noplace"), ("drop 0", "ok"),
                      ("rows", "2"), ("tell x", "0,0,0: 6; 0,1,1: -9"), ("drop 1", "ok"), ("drop 0", "ok"),
                      ("rows", "0"), ("undo", "ok"), ("undo", "ok"), ("undo", "ok"),
                      ("tell x", "0,0,0: 6; 0,0,1: 6; 0,1,2: -9"), ("undo", "ok"), ("rows", "2"), ("undo", "ok"),
                      ("undo", "ok"), ("undo", "error nothingleft"), ("rows", "0"))
        self.assertEqual(Desk(PLAIN).say(row="rows"), "0")

    def test_as_many_numbers_as_there_are_columns(self):
        for columns in reference.ALL_COLUMNS:
            desk = Desk(Scheme(columns))
            for many in range(10):
                numbers = " ".join(["1"] * many)
                self.talk(desk, ("add " + numbers, "0" if many == len(columns) + 3 else "unknown"))
                if many == len(columns) + 3:
                    self.talk(desk, ("undo", "ok"))
            self.talk(desk, ("rows", "0"))

    def test_numbers_of_forty_figures(self):
        desk = Desk(PLAIN)
        self.talk(desk, (f"add {FORTY} 0 {FORTY} {FORTY} {FORTY}", "0"), (f"add 0 {FORTY} -{FORTY} 1 {FORTY}", "1"),
                  ("tell x", f"0,{FORTY},1: -{FORTY}; {FORTY},0,0: {FORTY}"), (f"drop {FORTY}", "error noplace"),
                  ("tell x weighed - v", f"-: {reference_weighed(int(FORTY))}"))
        for place in range(5):
            for number in (FORTY + "9", "1" + "0" * 40, "1" * 900):
                numbers = ["1"] * 5
                numbers[place] = number
                self.talk(desk, ("add " + " ".join(numbers), "unknown"))
        self.talk(desk, (f"add 1 1 -{FORTY}9 1 1", "unknown"), (f"drop {FORTY}9", "unknown"), ("rows", "2"))

    def test_zero(self):
        desk = Desk(PLAIN)
        self.talk(desk, ("add 0 0 0 1 1", "0"), ("add 0 0 -0 1 1", "unknown"), ("add 0 0 0 0 1", "error badrow"),
                  ("add 0 0 0 1 0", "error badrow"), ("add 0 0 0 0 0", "error badrow"), ("add -0 0 0 1 1", "unknown"),
                  ("drop -0", "unknown"), ("rows", "1"), ("drop 0", "ok"))

    def test_a_minus_elsewhere(self):
        desk = Desk(PLAIN)
        for numbers in ("-1 1 1 1 1", "1 -1 1 1 1", "1 1 1 -1 1", "1 1 1 1 -1", "1 1 --1 1 1", "1 1 - 1 1",
                        "1 1 1- 1 1", "1 1 -01 1 1", "1 1 -00 1 1", "1 1 - 1 1 1"):
            self.talk(desk, ("add " + numbers, "unknown"))
        self.talk(desk, ("add 1 1 -1 1 1", "0"), ("drop -1", "unknown"), ("rows", "1"))

    def test_not_kept(self):
        desk = Desk(Scheme("ab", [("a", "b"), ("b", "r")]))
        self.talk(desk, ("add 0 0 6 1 1", "0"), ("add 0 1 6 1 1", "error notkept"), ("add 1 0 6 1 1", "error notkept"),
                  ("add 0 0 6 1 1", "error notkept"), ("rows", "1"), ("add 0 1 6 1 0", "error badrow"),
                  ("add 1 1 6 1 1", "1"), ("drop 0", "ok"), ("add 0 0 6 1 1", "1"), ("rows", "2"),
                  ("tell x", "0,0,1: 6; 1,1,0: 6"))

    def test_what_is_refused_changes_nothing(self):
        desk = Desk(Scheme("ab", [("a", "b")]))
        self.talk(desk, ("add 0 0 6 1 1", "0"), ("add 1 0 7 1 1", "1"), ("drop 0", "ok"))
        for row, wanted in [("add 1 1 6 1 1", "error notkept"), ("add 0 0 6 0 1", "error badrow"),
                            ("drop 1", "error noplace"), ("tell y", "error badtext"),
                            ("tell x mean - mean a", "error badlevel"), ("add 1", "unknown"),
                            ("tell x" + " sum -" * 12, "error toomany"), ("", "unknown"),
                            ("changed x sum", "error badtext"), ("form x mean -x", "error badtext"),
                            ("alike x | x mean -", "error badlevel"), ("undo 1", "unknown")]:
            self.talk(desk, (row, wanted), ("rows", "1"), ("tell x", "1,0,0: 7"), ("changed x sum a", "0,0"))
        self.talk(desk, ("undo", "ok"), ("undo", "ok"), ("undo", "ok"), ("undo", "error nothingleft"), ("rows", "0"))

    def test_two_desks_by_turns(self):
        one, other = Desk(PLAIN), Desk(PLAIN)
        self.talk(one, ("add 0 0 6 1 1", "0"))
        self.talk(other, ("rows", "0"), ("add 1 1 2 1 1", "0"), ("add 1 1 4 1 1", "1"))
        self.talk(one, ("rows", "1"), ("tell x mean -", "-: 6"), ("undo", "ok"), ("undo", "error nothingleft"))
        self.talk(other, ("rows", "2"), ("tell x mean -", "-: 3"), ("drop 0", "ok"))
        self.talk(one, ("rows", "0"))
        self.talk(other, ("tell x mean -", "-: 4"))

    def test_equal_to_no_value_of_another_kind(self):
        desk = Desk(PLAIN)
        for value in any_values():
            self.assertIs(desk == value, False)


def reference_weighed(most):
    """The mean of most and its negative, with the weights most and 1."""
    return fraction_text(reference.pair(reference.Fraction(most * most - most, most + 1)))


class Telling(Talk):

    def filled(self):
        desk = Desk(PLAIN)
        self.talk(desk, ("add 0 0 6 1 1", "0"), ("add 0 0 6 2 1", "1"), ("add 0 1 9 1 1", "2"),
                  ("add 12 3 -2 3 4", "3"))
        return desk

    def test_tell_in_full(self):
        self.talk(self.filled(), ("tell x", "0,0,0: 6; 0,0,1: 6; 0,1,2: 9; 12,3,3: -2"),
                  ("tell x mean ab mean a", "0: 15/2; 12: -2"), ("tell x mean -", "-: 19/4"),
                  ("tell (x mean a - x mean ab mean a)", "0: -1/2; 12: 0"), ("tell x sum b", "0: 12; 1: 9; 3: -2"),
                  ("tell x weighed - v", "-: 3"),
                  ("tell x share - w", "0,0,0: 6/7; 0,0,1: 6/7; 0,1,2: 9/7; 12,3,3: -8/7"),
                  ("tell x times r over -", "0,0,0: 6; 0,0,1: 6; 0,1,2: 9; 12,3,3: -2"))

    def test_without_groups(self):
        desk = Desk(PLAIN)
        self.talk(desk, ("tell x", "none"), ("tell x mean -", "none"), ("add 0 0 0 1 1", "0"),
                  ("tell x mean -", "-: 0"), ("undo", "ok"), ("tell x mean -", "none"),
                  ("changed x", "error nothingleft"))

    def test_changed_in_full(self):
        desk = self.filled()
        self.talk(desk, ("changed x", "12,3,3"), ("changed x mean -", "-"), ("changed x sum a", "12"), ("drop 0", "ok"),
                  ("changed x", "0,0,1 0,1,1 0,1,2 12,3,2 12,3,3"), ("changed x mean ab", "none"),
                  ("changed x sum ab", "0,0"), ("changed x share - v sum a", "0 12"),
                  ("changed x mean ab mean a", "none"), ("undo", "ok"), ("changed x mean ab mean a", "12"),
                  ("drop 2", "ok"), ("changed x sum b", "1"), ("changed x mean -", "-"))

    def test_errors(self):
        for desk in (self.filled(), Desk(PLAIN)):
            nothing = desk.say("rows") == "0"
            for word in ("tell", "changed", "form"):
                for text, wanted in [("", "badtext"), ("y", "badtext"), (" x", "badtext"), ("x ", "badtext"),
                                     ("x mean c", "badtext"), ("x | x", "badtext"), ("x mean a mean b", "badlevel"),
                                     ("(x + x mean a)", "badlevel"), ("x" + " times a" * 12, "toomany"),
                                     ("x" + " sum -" * 12 + " sum a", "badlevel"), ("x mean a mean b ", "badtext"),
                                     ("x" + " sum -" * 12 + " ", "badtext")]:
                    self.talk(desk, (f"{word} {text}", "error " + wanted))
            if nothing:
                self.talk(desk, ("changed x", "error nothingleft"), ("changed x mean a", "error nothingleft"))

    def test_a_fraction_of_very_many_figures(self):
        desk = Desk(Scheme("abcd"))
        rows = [((at // 2, at % 30, at // 15, (7 * at) % 30), 1, int(FORTY) - at ** 3, int(FORTY) - at ** 4)
                for at in range(60)]
        for row in rows:
            desk.say("add " + " ".join(map(str, row[0] + row[1:])))
        text = "x share a v share b w share d v share b v share a w share d w sum -"
        told = desk.say("tell " + text)
        top, bottom = told.removeprefix("-: ").split("/")
        self.assertGreater(len(bottom), 5000)
        self.assertEqual((top, bottom), shares_by_words(rows))


def shares_by_words(rows):
    """Top and bottom, as written, of the sum of these shares."""
    total = reference.Fraction(0)
    for row in rows:
        worth = reference.Fraction(row[1])
        for place, weight in itertools.product((0, 1, 3), (2, 3)):
            worth *= reference.Fraction(row[weight], sum(one[weight] for one in rows if one[0][place] == row[0][place]))
        total += worth
    return written(total.numerator), written(total.denominator)


def written(number):
    found = ""
    while number:
        number, piece = divmod(number, 10 ** 1000)
        found = str(piece).zfill(1000) + found
    return found.lstrip("0")


class Judging(Talk):

    def test_form_in_full(self):
        self.talk(Desk(PLAIN), ("form x", "1"), ("form (x - x)", "0"), ("form (x + (x + x))", "3"),
                  ("form (x - (x + x))", "-1"), ("form x mean a", "1 many(abr,a)^-1"),
                  ("form x mean ab mean a", "1 many(ab,a)^-1 many(abr,ab)^-1"), ("form x sum a", "1"),
                  ("form x mean - times a", "1 many(a,-)^1 many(abr,-)^-1"),
                  ("form x weighed - v", "1 total(v,-)^-1 total(v,abr)^1"),
                  ("form x sum - times r times r", "1 many(abr,-)^2"),
                  ("form (x sum a - x mean a)", "1; -1 many(abr,a)^-1"),
                  ("form ((x + x) mean a - x sum a)", "-1; 2 many(abr,a)^-1"),
                  ("form x share b w mean -", "1 many(abr,-)^-1 total(w,abr)^1 total(w,b)^-1"))
        self.talk(Desk(Scheme("abc", [("a", "b")])), ("form x mean a", "1 many(abcr,ab)^-1"),
                  ("form x sum a times b", "1"))

    def test_alike_in_full(self):
        self.talk(Desk(PLAIN), ("alike x | x", "yes"), ("alike x mean a | x mean ab mean a", "no"),
                  ("alike x sum a over r | x mean a", "yes"), ("alike (x + x) | (x - x)", "no"),
                  ("alike (x - x) | (x - x)", "yes"))
        self.talk(Desk(Scheme("ab", [("ab", "r")])), ("alike x mean a | x mean ab mean a", "yes"))

    def test_alike_errors(self):
        many = "x" + " sum -" * 12
        for first, second, wanted in [
            ("", "", "badtext"), ("", "x", "badtext"), ("x", "", "badtext"), ("x ", "x", "badtext"),
            ("x", " x", "badtext"), ("x", "x ", "badtext"), ("x", "x | x", "badtext"), ("x", " | x", "badtext"),
            ("x |", "x", "badtext"), ("x", "x mean a", "badlevel"), ("x mean a", "x mean b", "badlevel"),
            ("x mean a mean b", "y", "badlevel"), ("y", "x mean a mean b", "badtext"), (many, "y", "toomany"),
            ("y", many, "badtext"), (many, "x mean a mean b", "toomany"), ("x mean a mean b", many, "badlevel"),
            ("x", many, "toomany"), ("x mean a", "x mean a |", "badtext"),
        ]:
            self.talk(Desk(PLAIN), (f"alike {first} | {second}", "error " + wanted))

    def test_they_ask_for_no_rows(self):
        desk = Desk(PLAIN)
        self.talk(desk, ("form x mean a", "1 many(abr,a)^-1"), ("alike x | x", "yes"), ("add 0 0 6 1 1", "0"),
                  ("form x mean a", "1 many(abr,a)^-1"), ("alike x | x", "yes"), ("rows", "1"))


class Unknown(Talk):

    def test_rows_that_have_none_of_the_forms(self):
        desk = Desk(PLAIN)
        self.talk(desk, ("add 1 1 6 1 1", "0"), ("add 1 2 6 1 1", "1"), ("drop 0", "ok"))
        for row in [
            "", " ", "  ", "add", "add ", "add  ", "drop", "drop ", "tell", "changed", "form", "alike", "alike ",
            "alike x", "alike x|x", "alike x |x", "alike x| x", "alike x |", "alike | x", "alike |", "alike  |x",
            "Rows", "ROWS", "row", "rowss", "rows ", " rows", "rows 1", "rows rows", "undo ", " undo", "undo 1",
            "Undo", "undone", "undo undo", "drop  0", "drop 0 ", " drop 0", "drop 0 0", "drop 00", "drop 01",
            "drop +0", "drop -1", "drop x", "drop 0.0", "drop 0,", "Drop 0", "drop0", "drops 0", "drop a", "drop\n0",
            "drop 0\n", "add 0 0 6 1", "add 0 0 6 1 1 1", "add  0 0 6 1 1", "add 0  0 6 1 1", "add 0 0 6 1 1 ",
            " add 0 0 6 1 1", "add 0 0  6 1 1", "add 0 0 6 1  1", "add 00 0 6 1 1", "add 0 01 6 1 1", "add 0 0 06 1 1",
            "add 0 0 6 01 1", "add 0 0 6 1 01", "add 0 0 +6 1 1", "add +0 0 6 1 1", "add 0 0 6 +1 1",
            "add 0 0 6/1 1 1", "add 0,0,6,1,1", "add a b 6 1 1", "add 0 0 x 1 1", "add 0 0 6 v 1", "add 0 0 6 1 1\n",
            "add\n0 0 6 1 1", "Add 0 0 6 1 1", "add row 0 0 6 1 1", "0 0 6 1 1", "0 0 6 1 1 add", "x", "tell\nx",
            "telling x", "Tell x", "tells", " tell x", "changed\n", "change x", "forms x", "form\n", " form x",
            " alike x | x", "unalike x | x", "tell,x", "unknown", "ok", "none", "error", "say rows", "columns ab",
            "add 0 0 6 1 0x1", "add 0 0 6 1 1_0", "add 0 0 - 1 1", "add 0 0 6.0 1 1", "copy", "log",
        ]:
            self.talk(desk, (row, "unknown"), ("rows", "1"), ("tell x", "1,2,0: 6"))
        self.talk(desk, ("changed x sum ab", "1,1"), ("undo", "ok"), ("undo", "ok"), ("undo", "ok"),
                  ("undo", "error nothingleft"))

    def test_the_empty_text_is_a_text(self):
        for word in ("tell", "form", "changed"):
            self.talk(Desk(PLAIN), (word + " ", "error badtext"), (word, "unknown"), (word + "  ", "error badtext"))

    def test_rows_that_are_changed_somewhere(self):
        chance = random.Random(92)
        words = ["add", "drop", "undo", "rows", "tell", "0", "1", "-1", "01", "", "x"]
        for _ in range(600):
            row = chance.choice((["add", "0", "0", "1", "1", "1"], ["drop", "0"], ["undo"], ["rows"], ["tell", "x"]))
            for _ in range(chance.randint(0, 2)):
                at = chance.randint(0, len(row))
                row = row[:at] + [chance.choice(words)] * chance.randint(0, 1) + row[at + chance.randint(0, 1):]
            desk = Desk(PLAIN)
            desk.say("add 1 1 1 1 1")
            told = desk.say(" ".join(row))
            self.assertEqual(told, plain_answer(row), row)
            if told == "unknown":
                self.talk(desk, ("tell x", "1,1,0: 1"))


def plain_answer(words):
    """What a desk with the row 1 1 1 1 1 says to a row of words."""
    if words in (["undo"], ["rows"]):
        return "ok" if words == ["undo"] else "1"
    if len(words) > 1 and words[0] == "tell":
        if words[1:] == ["x"]:
            return "1,1,0: 1"
        return "error badtext"
    if len(words) == 2 and words[0] == "drop" and words[1] in ("0", "1"):
        return "ok" if words[1] == "0" else "error noplace"
    if len(words) == 6 and words[0] == "add" and all(word in ("0", "1") for word in words[1:3] + words[4:]):
        if words[3] in ("0", "1", "-1"):
            return "1" if "0" not in words[4:] else "error badrow"
    return "unknown"


class AllKinds(Talk):

    def test_beside_a_live_table(self):
        chance = random.Random(93)
        for _ in range(60):
            scheme = chance.choice(PAIRS) if chance.random() < 0.7 else some_scheme(chance)
            desk, live = Desk(scheme), Live(scheme)
            for _ in range(25):
                self.some_deed(chance, desk, live)
            self.talk(desk, ("rows", str(len(live.table))))
            for _ in range(4):
                report = some_report(chance, scheme, 5)
                text = grammar.text_of(report.parts())
                self.talk(desk, ("tell " + text, told_text(reference.named(scheme, report.parts(), live.table))),
                          ("form " + text, form_text(form(report)[1])))
                if log_of(live):
                    names = [figures(name) for name in live.changed(report)]
                    self.talk(desk, ("changed " + text, " ".join(names) or "none"))
                other = beside(chance, report)
                said = f"alike {text} | {grammar.text_of(other.parts())}"
                self.talk(desk, (said, "yes" if alike(report, other) else "no"))

    def some_deed(self, chance, desk, live):
        """One deed, at the desk and in the live table."""
        word = chance.choice(("add", "add", "add", "drop", "undo"))
        if word == "add":
            row = some_row(chance, live.scheme.columns)
            said, work = "add " + " ".join(map(str, row[0] + row[1:])), lambda: str(live.add(row))
        elif word == "drop":
            at = chance.randint(0, len(live.table))
            said, work = f"drop {at}", lambda: live.drop(at) and "ok"
        else:
            said, work = "undo", lambda: live.undo() or "ok"
        try:
            wanted = work()
        except ValueError as error:
            wanted = "error " + type(error).__name__.lower()
        self.talk(desk, (said, wanted))

    def test_the_report_of_a_text(self):
        start = Report(PLAIN)
        report = ((start.mean("ab") - start.summed("ab")).weighed("a", "v").times("b") + start.mean("a")).share("", "w")
        text = "((x mean ab - x sum ab) weighed a v times b + x mean a) share - w"
        desk = Desk(PLAIN)
        self.talk(desk, ("add 0 0 6 1 5", "0"), ("add 0 1 7 2 1", "1"), ("add 2 1 8 3 1", "2"),
                  ("form " + text, form_text(form(report)[1])))
        self.assertIn("total(w,-)^-1", desk.say("form " + text))


if __name__ == "__main__":
    unittest.main()
