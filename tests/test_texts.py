"""Reports and tables as texts, and texts that are read as reports and tables."""

import itertools
import random
import re
import unittest

from meanways.errors import BadLevel, BadText, TooMany
from meanways.reports import Report
from meanways.schemes import Scheme
from meanways.tables import Table
from meanways.texts import read_report, read_table, report_text, table_text
import grammar
import reference
from some_reports import PAIRS, some_report, some_scheme, some_table
from some_values import any_values, refuses, same

PLAIN = Scheme("ab")
CHARACTERS = [chr(code) for code in range(32, 127) if chr(code) != "%"] + ["\n"]


class ReportText(unittest.TestCase):

    def check(self, report, wanted):
        for told in (report_text(report), report_text(report=report)):
            self.assertTrue(same(told, wanted), told)
        for told in (read_report(report.scheme, wanted), read_report(text=wanted, scheme=report.scheme)):
            self.assertIs(type(told), Report)
            self.assertIs(told.scheme, report.scheme)
            self.assertTrue(same(told.parts(), report.parts()))
            self.assertEqual((told, told.level, len(told)), (report, report.level, len(report)))

    def test_in_full(self):
        x = Report(PLAIN)
        for report, wanted in [
            (x, "x"), (x.summed("ab"), "x sum ab"), (x.mean("ab").mean("a"), "x mean ab mean a"),
            (x.weighed("a", "v"), "x weighed a v"), (x.weighed("", "w"), "x weighed - w"),
            (x.share("b", "w").share("", "v"), "x share b w share - v"), (x.mean("a").times("b"), "x mean a times b"),
            (x.over("").times("abr"), "x over - times abr"), (x + x, "(x + x)"), (x - x, "(x - x)"),
            ((x + x).mean(""), "(x + x) mean -"), (x.mean("a") - x.summed("a"), "(x mean a - x sum a)"),
            ((x - (x + x)) + x, "((x - (x + x)) + x)"), (x + (x - x).times("r"), "(x + (x - x) times r)"),
            ((x.summed("br") + x).weighed("r", "w"), "(x sum br + x) weighed r w"),
        ]:
            self.check(report, wanted)

    def test_sets_as_passed(self):
        x = Report(Scheme("abc", [("a", "b"), ("c", "r"), ("b", "a")]))
        for letters in reference.sets_of("abc"):
            written = letters or "-"
            self.check(x.summed(letters), "x sum " + written)
            self.check(x.times(letters).over(letters), f"x times {written} over {written}")
            self.check(x.share(letters, "v").weighed(letters, "w"), f"x share {written} v weighed {written} w")
        self.assertNotEqual(read_report(x.scheme, "x sum a"), read_report(x.scheme, "x sum ab"))

    def test_all_kinds(self):
        chance = random.Random(80)
        for _ in range(600):
            report = some_report(chance, chance.choice(PAIRS), 8)
            self.check(report, grammar.text_of(report.parts()))

    def test_twelve_parts(self):
        x = Report(PLAIN)
        self.check(x.times("a").times("a").times("a").times("a").times("a").times("a").times("a").times("a").times("a")
                   .times("a").times("a"), "x" + " times a" * 11)
        self.check((x + (x + (x + (x + (x + x))))).mean("a"), "(x + (x + (x + (x + (x + x))))) mean a")


class NoReport(unittest.TestCase):

    def refused(self, place, scheme, text):
        refuses(self, BadText, "place", place, read_report, scheme, text)
        refuses(self, BadText, "place", place, read_report, text=text, scheme=scheme)

    def test_no_string(self):
        for value in [*any_values(), Report(PLAIN), PLAIN, ["x"], ("x",), b"x"]:
            if type(value) is not str:
                self.refused(0, PLAIN, value)

    def test_the_empty_string(self):
        self.refused(0, PLAIN, "")

    def test_in_full(self):
        for place, text in [
            (0, " x"), (0, "X"), (0, "a"), (0, ")"), (0, "-"), (1, "xx"), (1, "x\n"), (1, "x)"), (1, "x+ x"),
            (2, "x "), (2, "x  sum a"), (2, "x + x"), (2, "x - x"), (2, "x Sum a"), (3, "x s"), (3, "x som a"),
            (4, "x shm a"), (4, "x me"), (3, "x ma"), (3, "x wa"), (3, "x ta"), (3, "x oa"), (5, "x sum"),
            (5, "x sums a"), (6, "x meana"), (6, "x meanab"), (6, "x sum "), (6, "x sum  a"), (6, "x sum c"),
            (6, "x sum d"), (6, "x sum v"), (6, "x sum x"), (7, "x sum ba"), (7, "x sum aa"), (7, "x sum -a"),
            (7, "x sum a-"), (7, "x sum --"), (7, "x sum a)"), (7, "x sum rb"), (8, "x sum abb"), (8, "x sum ara"),
            (9, "x sum abrr"), (8, "x sum a "), (8, "x sum a + x"), (8, "x sum a  mean a"), (8, "x sum a v"),
            (11, "x weighed a"), (12, "x weighed a "), (12, "x weighed a a"), (12, "x weighed a  v"),
            (13, "x weighed a vw"), (14, "x weighed a v "), (10, "x weighed v"), (9, "x share av"), (9, "x share a"),
            (10, "x times a v"), (9, "x over a v"), (1, "("), (1, "()"), (1, "( x"), (2, "(x"), (2, "(x)"),
            (2, "(x+ x)"), (3, "(x "), (3, "(x * x)"), (4, "(x +"), (4, "(x +x)"), (4, "(x -- x)"), (5, "(x mess"),
            (5, "(x + "), (6, "(x + x"), (7, "(x + x "), (7, "(x + x + x)"), (7, "(x + x - x)"), (7, "(x + x))"),
            (8, "(x + x) "), (8, "(x + x) + x"), (8, "((x + x)"), (8, "(x sum a)"), (9, "(x sum a )"),
            (8, "(x sum b, x)"), (0, "a" * 1000),
        ]:
            self.assertEqual(grammar.first_wrong("ab", text), place, text)
            self.refused(place, PLAIN, text)

    def test_letters_that_the_scheme_does_not_have(self):
        for columns in reference.ALL_COLUMNS:
            for letter in "abcdrvwxe-A":
                text = "x mean " + letter
                if letter in columns + "r-":
                    self.assertEqual(read_report(Scheme(columns), text).parts()[0], "mean")
                else:
                    self.refused(7, Scheme(columns), text)

    def test_each_next_character(self):
        texts = ["((x sum ab mean - + x weighed a v) times r - x share abr w over b) sum -",
                 "(x - (x + x times -) over r)"]
        for columns in ("ab", "abc"):
            for text in texts:
                for at in range(len(text) + 1):
                    for character in CHARACTERS:
                        longer = text[:at] + character
                        if grammar.first_wrong(columns, longer) == at:
                            refuses(self, BadText, "place", at, read_report, Scheme(columns), longer)
                            refuses(self, BadText, "place", at, read_report, Scheme(columns), longer + text[at:])

    def test_texts_that_end_too_early(self):
        chance = random.Random(81)
        for _ in range(150):
            columns = chance.choice(reference.ALL_COLUMNS)
            text = grammar.text_of(grammar.some_part(chance, columns, chance.randint(1, 15)))
            for at in range(len(text)):
                if grammar.first_wrong(columns, text[:at]) == at:
                    self.refused(at, Scheme(columns), text[:at])

    def test_texts_that_are_changed_somewhere(self):
        chance = random.Random(82)
        seen = {True: 0, False: 0}
        for _ in range(1500):
            columns = chance.choice(reference.ALL_COLUMNS)
            text = changed_somewhere(chance, grammar.text_of(grammar.some_part(chance, columns, chance.randint(1, 12))))
            place = grammar.first_wrong(columns, text)
            seen[place is None] += 1
            if place is not None:
                self.refused(place, Scheme(columns), text)
        self.assertGreater(seen[False], 1000)

    def test_long_texts(self):
        for text in ("(" * 1000, "(" * 999 + "x", "(x + " * 199, "((x - x) + " * 90):
            self.refused(len(text), PLAIN, text)
        self.refused(999, PLAIN, "(" * 999 + ")")
        self.refused(1, PLAIN, "x" * 1000)

    def test_the_text_ahead_of_the_levels(self):
        for place, text in [(16, "x mean a mean b +"), (19, "x mean a mean b sum"), (21, "(x mean a + x sum b) c")]:
            self.assertEqual(grammar.first_wrong("ab", text), place)
            self.refused(place, PLAIN, text)


def changed_somewhere(chance, text):
    """A text with a character left out, put in or exchanged at one or two places."""
    for _ in range(chance.randint(1, 2)):
        at = chance.randint(0, len(text))
        left = at + chance.randint(0, 2)
        text = text[:at] + chance.choice(["", *CHARACTERS, *"abrx-+()vw sm " * 4]) + text[left:]
    return text


class LevelsAndParts(unittest.TestCase):

    def test_levels_in_full(self):
        for letters, text in [
            ("b", "x mean a mean b"), ("ab", "x mean a sum ab"), ("r", "x mean ab weighed r v"),
            ("b", "x mean a share b w"), ("a", "x sum - mean a sum b"), ("b", "(x mean a + x mean b)"),
            ("abr", "(x mean a - x)"), ("", "(x mean a - x sum -)"), ("ab", "(x mean a + x mean ab)"),
            ("b", "(x mean a mean b + x mean a)"), ("b", "(x mean - + x mean a mean b)"),
            ("a", "(x mean b + x mean a) mean ab"), ("abr", "((x mean a + x) + x mean b)"),
            ("b", "(x + x mean b) mean a"),
        ]:
            self.assertEqual(grammar.first_wrong("ab", text), None, text)
            refuses(self, BadLevel, "letters", letters, read_report, PLAIN, text)
            refuses(self, BadLevel, "letters", letters, read_report, text=text, scheme=PLAIN)

    def test_the_levels_are_those_of_the_closures(self):
        scheme = Scheme("abc", [("a", "b"), ("b", "c"), ("c", "r")])
        read_report(scheme, "x mean c mean a sum abcr")
        scheme = Scheme("abc", [("a", "b"), ("", "c")])
        self.assertEqual(read_report(scheme, "(x mean a mean b mean - + x sum c)").level, "c")
        refuses(self, BadLevel, "letters", "bc", read_report, scheme, "(x mean a + x mean b)")
        refuses(self, BadLevel, "letters", "a", read_report, scheme, "x mean b mean a")

    def test_too_many(self):
        for text in ("x" + " times a" * 12, "x" + " sum -" * 12, "(x + (x + (x + (x + (x + (x + x))))))",
                     "(((((x + x) - x) + x) - x) + x) share a v over -", "x" + " sum -" * 166, "x" + " mean r" * 142,
                     "(x + " * 150 + "x" + ")" * 150, "(" * 166 + "x" + " - x)" * 166):
            self.assertEqual(grammar.first_wrong("ab", text), None)
            refuses(self, TooMany, "limit", 12, read_report, PLAIN, text)
            refuses(self, TooMany, "limit", 12, read_report, text=text, scheme=PLAIN)

    def test_far_too_many(self):
        for text in ("x" + " sum -" * 5000, "(x + " * 3000 + "x" + ")" * 3000):
            refuses(self, TooMany, "limit", 12, read_report, PLAIN, text)

    def test_the_levels_ahead_of_too_many(self):
        for letters, text in [("a", "x" + " sum -" * 20 + " mean a"), ("b", "x mean a mean b" + " over a" * 100),
                              ("abr", "(x mean a" + " times -" * 15 + " + x)"),
                              ("b", "x" + " mean a" * 30 + " share b v")]:
            refuses(self, BadLevel, "letters", letters, read_report, PLAIN, text)

    def test_all_kinds(self):
        chance = random.Random(83)
        seen = {"level": 0, "parts": 0, "right": 0}
        for _ in range(2500):
            scheme = chance.choice(PAIRS) if chance.random() < 0.7 else some_scheme(chance)
            part = grammar.some_part(chance, scheme.columns, chance.choice((2, 3, 4, 5, 8, 12, 12, 13, 14)))
            if chance.random() < 0.5:
                part = some_report(chance, scheme, 4).parts()
                for _ in range(chance.randint(0, 9)):
                    part = ("over", part, chance.choice(reference.sets_of(scheme.columns)))
            text, letters = grammar.text_of(part), grammar.wrong_level(scheme, part)
            if letters is not None:
                refuses(self, BadLevel, "letters", letters, read_report, scheme, text)
                seen["level"] += 1
            elif len(grammar.in_order(part)) > 12:
                refuses(self, TooMany, "limit", 12, read_report, scheme, text)
                seen["parts"] += 1
            else:
                told = read_report(scheme, text)
                self.assertTrue(same(told.parts(), part))
                self.assertEqual(told.level, reference.level(scheme, part))
                self.assertEqual(report_text(told), text)
                seen["right"] += 1
        self.assertGreater(min(seen.values()), 150, seen)


def first_wrong_line(text):
    """The number of the first line of a table's text that has not its form, None if all have."""
    lines = text.split("\n")
    head = re.fullmatch(r"columns (?=.)(a?b?c?d?)", lines[0])
    if not head or len(lines) == 1:
        return 0
    number, weight = "(?:0|[1-9][0-9]*)", "[1-9][0-9]*"
    row = f"(?:{number} ){{{len(head[1])}}}(?:{number}|-{weight}) {weight} {weight}"
    for at, line in enumerate(lines[1:], 1):
        if at == len(lines) - 1:
            return None if line == "" else at
        if not re.fullmatch(row, line):
            return at


class TableText(unittest.TestCase):

    def check(self, table, wanted):
        for told in (table_text(table), table_text(table=table)):
            self.assertTrue(same(told, wanted), told)
        for told in (read_table(wanted), read_table(text=wanted)):
            self.assertIs(type(told), Table)
            self.assertTrue(same((told.columns, told.rows), (table.columns, table.rows)))

    def test_in_full(self):
        self.check(Table("ab", []), "columns ab\n")
        self.check(Table("c", [((0,), 0, 1, 1)]), "columns c\n0 0 1 1\n")
        self.check(Table("ab", [((0, 10), -6, 1, 12), ((0, 10), -6, 1, 12), ((3, 0), 100, 20, 1)]),
                   "columns ab\n0 10 -6 1 12\n0 10 -6 1 12\n3 0 100 20 1\n")
        self.check(Table("abcd", [((1, 2, 3, 4), -10, 6, 7)]), "columns abcd\n1 2 3 4 -10 6 7\n")
        self.check(Table("bd", [((1000000, 999999999), 1000000000, 1000000001, 10 ** 18)]),
                   "columns bd\n1000000 999999999 1000000000 1000000001 1000000000000000000\n")

    def test_numbers_of_many_figures(self):
        for many in (9, 10, 18, 19, 40, 300, 900, 4299, 5000):
            ten = "1" + "0" * many
            self.check(Table("a", [((10 ** many,), -(10 ** many), 10 ** many, 10 ** many)]),
                       f"columns a\n{ten} -{ten} {ten} {ten}\n")
        figures = "".join(str(at * 7 % 10) for at in range(1, 800))
        self.check(Table("a", [((int(figures),), int(figures), 1, 1)]), f"columns a\n{figures} {figures} 1 1\n")

    def test_all_kinds(self):
        chance = random.Random(84)
        for _ in range(300):
            scheme = some_scheme(chance)
            table = some_table(chance, scheme, 12)
            lines = ["columns " + table.columns] + [" ".join(map(str, row[0] + row[1:])) for row in table.rows]
            self.check(table, "\n".join(lines) + "\n")

    def test_tables_that_the_package_made(self):
        chance = random.Random(85)
        for _ in range(50):
            scheme = chance.choice(PAIRS)
            table = some_table(chance, scheme, 4) * some_table(chance, scheme, 4)
            self.assertEqual(read_table(table_text(table)), table)

    def refused(self, line, text):
        refuses(self, BadText, "place", line, read_table, text)
        refuses(self, BadText, "place", line, read_table, text=text)

    def test_no_string(self):
        for value in [*any_values(), Table("a", []), b"columns a\n", ["columns a\n"]]:
            if type(value) is not str:
                self.refused(0, value)

    def test_wrong_heads(self):
        for text in ["", "\n", "columns", "columns\n", "columns \n", "columns ab", "columns ba\n", "columns aa\n",
                     "columns abe\n", "columns r\n", "columns ar\n", "Columns a\n", "columns  a\n", " columns a\n",
                     "columns a \n", "columns a b\n", "column a\n", "columns a,b\n", "columnsa\n", "a\n", "columns A\n",
                     "columns abcde\n", "columns columns a\n",
                     "0 0 1 1\n", "columns a\r\n", "\ncolumns a\n", "columns -\n", "columns 1\n"]:
            self.assertEqual(first_wrong_line(text), 0, text)
            self.refused(0, text)
            self.refused(0, text + "columns a\n0 0 1 1\n" if text.endswith("\n") else text)

    def test_wrong_rows(self):
        right = "1 2 3 4 5\n"
        for line in ["", " ", "1 2 3 4", "1 2 3 4 5 6", "1  2 3 4 5", " 1 2 3 4 5", "1 2 3 4 5 ", "01 2 3 4 5",
                     "1 00 3 4 5",
                     "1 2 03 4 5", "1 2 -03 4 5", "1 2 3 04 5", "1 2 3 4 05", "-1 2 3 4 5", "1 -2 3 4 5", "-0 2 3 4 5",
                     "1 2 -0 4 5", "1 2 3 -4 5", "1 2 3 4 -5", "1 2 3 0 5", "1 2 3 4 0", "1 2 3 -0 5", "+1 2 3 4 5",
                     "1 2 +3 4 5", "1 2 - 4 5", "1 2 --3 4 5", "1 2 3- 4 5", "1 2 x 4 5", "1 2 3.0 4 5", "1,2,3,4,5",
                     "1\t2 3 4 5", "1 2 3 4 5\r", "a 2 3 4 5", "1_0 2 3 4 5", "1 2 1e3 4 5", "columns ab",
                     "1 2 3/1 4 5",
                     "0x1 2 3 4 5", "1 2 -00 4 5", "00 2 3 4 5"]:
            for before in (0, 1, 3):
                for behind in ("", right, "1 2 3 4\n"):
                    text = "columns ab\n" + right * before + line + "\n" + behind
                    self.assertEqual(first_wrong_line(text), before + 1, text)
                    self.refused(before + 1, text)

    def test_any_character_in_any_word(self):
        for place, character in itertools.product(range(5), CHARACTERS):
            for word in (character, "1" + character, character + "1"):
                words = ["1"] * 5
                words[place] = word
                text = "columns ab\n" + " ".join(words) + "\n"
                line = first_wrong_line(text)
                if line is not None:
                    self.refused(line, text)
                else:
                    self.assertEqual(table_text(read_table(text)), text)

    def test_lines_that_are_not_ended(self):
        head, row = "columns ab\n", "1 2 3 4 5\n"
        for line, text in [(0, "columns ab"), (1, head + "1 2 3 4 5"), (2, head + row + "1 2 3 4 5"), (1, head + " "),
                           (1, head + "1 2 3 4"), (1, head + "1 2 3 4\n1 2 3 4 5"), (2, head + row + "\n"),
                           (2, head + row + "1 2 3 4 5 6"), (1, head + "\n")]:
            self.assertEqual(first_wrong_line(text), line)
            self.refused(line, text)

    def test_texts_that_are_changed_somewhere(self):
        chance = random.Random(86)
        seen = {}
        for _ in range(1500):
            text = table_text(some_table(chance, some_scheme(chance), 4))
            for _ in range(chance.randint(1, 2)):
                at = chance.randint(0, len(text))
                text = text[:at] + chance.choice(["", *"0123 -\n ab"]) + text[at + chance.randint(0, 2):]
            line = first_wrong_line(text)
            if line is None:
                self.assertEqual(table_text(read_table(text)), text)
            else:
                self.refused(line, text)
            seen[line] = seen.get(line, 0) + 1
        self.assertTrue({None, 0, 1, 2, 3} <= set(seen), seen)


if __name__ == "__main__":
    unittest.main()
