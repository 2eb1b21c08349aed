"""Tables: how they are made and refused, rows, equality, groups, dependences that they keep, the table product."""

import copy
import itertools
import random
import unittest

from meanways.errors import BadColumns, BadRow, BadSet, NoPlace
from meanways.schemes import Scheme
from meanways.tables import Table
import reference
from reference import ALL_COLUMNS, dependences_of, sets_of
from some_reports import PAIRS, some_row, some_scheme, some_table
from some_values import any_values, compares, raised, refuses, same

ROWS = (((0, 0), 6, 1, 1), ((0, 1), -9, 2, 3), ((0, 0), 6, 1, 1), ((5, 1), 0, 10 ** 6, 1))
RIGHT = ((0, 0), 1, 1, 1)
WRONG_FOR_AB = [
    [(0, 0), 1, 1, 1], ([0, 0], 1, 1, 1), ((0,), 1, 1, 1), ((0, 0, 0), 1, 1, 1), ((), 1, 1, 1),
    ((0, -1), 1, 1, 1), ((-1, 0), 1, 1, 1), ((0, True), 1, 1, 1), ((True, 0), 1, 1, 1), ((False, 0), 1, 1, 1),
    ((0, None), 1, 1, 1), ((0, "0"), 1, 1, 1), ((0, (0,)), 1, 1, 1), ((0, [0]), 1, 1, 1), ((0, {}), 1, 1, 1),
    ("00", 1, 1, 1), (None, 1, 1, 1), ({0: 0, 1: 0}, 1, 1, 1), (0, 1, 1, 1), (True, 1, 1, 1),
    ((0, 0), True, 1, 1), ((0, 0), False, 1, 1), ((0, 0), None, 1, 1), ((0, 0), "1", 1, 1), ((0, 0), (1, 1), 1, 1),
    ((0, 0), [1], 1, 1), ((0, 0), {}, 1, 1),
    ((0, 0), 1, 0, 1), ((0, 0), 1, -1, 1), ((0, 0), 1, True, 1), ((0, 0), 1, None, 1), ((0, 0), 1, "1", 1),
    ((0, 0), 1, (1, 1), 1), ((0, 0), 1, [1], 1),
    ((0, 0), 1, 1, 0), ((0, 0), 1, 1, -1), ((0, 0), 1, 1, True), ((0, 0), 1, 1, None), ((0, 0), 1, 1, "1"),
    ((0, 0), 1, 1, (1, 1)), ((0, 0), 1, 1, {}),
    (), ((0, 0),), ((0, 0), 1), ((0, 0), 1, 1), ((0, 0), 1, 1, 1, 1), (0, 0, 1, 1, 1), ((0, 0, 1, 1, 1),),
    "0011", None, 0, True, {}, {"keys": (0, 0)}, Scheme("ab"),
]


class Made(unittest.TestCase):

    def test_columns_and_rows(self):
        table = Table("ab", list(ROWS))
        self.assertTrue(same(table.columns, "ab"))
        self.assertTrue(same(table.rows, ROWS))
        self.assertTrue(same(Table("ab", ROWS).rows, ROWS))

    def test_any_columns(self):
        for columns in ALL_COLUMNS:
            rows = [(tuple(range(len(columns))), at, at + 1, at + 2) for at in range(4)]
            table = Table(columns, rows)
            self.assertTrue(same((table.columns, table.rows), (columns, tuple(rows))))

    def test_no_rows(self):
        for none in ([], ()):
            table = Table("abd", none)
            self.assertTrue(same((table.columns, table.rows, len(table)), ("abd", (), 0)))

    def test_least_and_great_numbers(self):
        great = 10 ** 40
        rows = (((0,), -great, 1, 1), ((great,), great, great, great), ((0,), 0, 1, great))
        self.assertTrue(same(Table("c", rows).rows, rows))

    def test_many_rows(self):
        rows = [((at,), at, 1, 1) for at in range(300)]
        self.assertEqual(len(Table("a", rows)), 300)
        self.assertEqual(Table("a", rows)[299], rows[299])

    def test_how_many_and_each_row(self):
        table = Table("ab", ROWS)
        self.assertTrue(same(len(table), 4))
        for at, row in enumerate(ROWS):
            self.assertTrue(same(table[at], row))

    def test_a_later_change_of_the_list_has_no_effect(self):
        given = list(ROWS)
        table = Table("ab", given)
        given.append(RIGHT)
        given[0] = RIGHT
        self.assertEqual((table.rows, len(table), table[0]), (ROWS, 4, ROWS[0]))
        self.assertEqual(table, Table("ab", ROWS))

    def test_what_is_passed_stays_as_it_is(self):
        given = list(ROWS)
        table = Table("ab", given)
        table.groups("a")
        table.broken(Scheme("ab", [("a", "b")]))
        table * table
        self.assertEqual(given, list(ROWS))

    def test_by_name(self):
        self.assertEqual(Table(columns="ab", rows=ROWS), Table("ab", ROWS))
        self.assertEqual(Table(rows=[], columns="d").columns, "d")

    def test_properties_are_not_assigned(self):
        table = Table("ab", ROWS)
        with self.assertRaises(AttributeError):
            table.columns = "abc"
        with self.assertRaises(AttributeError):
            table.rows = ()


class Refused(unittest.TestCase):

    def test_columns_of_any_value(self):
        for value in [*any_values(), Table("ab", [])]:
            if value not in ALL_COLUMNS or type(value) is not str:
                refuses(self, BadColumns, "given", value, Table, value, [])
                refuses(self, BadColumns, "given", value, Table, rows=None, columns=value)

    def test_columns_ahead_of_rows(self):
        for wrong in (None, 5, [None], [((0, 0), 1, 1, 0)]):
            refuses(self, BadColumns, "given", "ba", Table, "ba", wrong)

    def test_rows_that_are_no_list(self):
        for value in [*any_values(), Table("ab", [RIGHT])]:
            if not isinstance(value, (list, tuple)):
                refuses(self, BadRow, "at", None, Table, "ab", value)
                refuses(self, BadRow, "at", None, Table, columns="ab", rows=value)

    def test_items_that_are_no_rows(self):
        for wrong in WRONG_FOR_AB:
            refuses(self, BadRow, "at", 0, Table, "ab", [wrong])
            refuses(self, BadRow, "at", 0, Table, "ab", (wrong, RIGHT))
            refuses(self, BadRow, "at", 2, Table, "ab", [RIGHT, RIGHT, wrong, RIGHT])

    def test_any_value_as_an_item(self):
        for value in any_values():
            refuses(self, BadRow, "at", 1, Table, "ab", [RIGHT, value])

    def test_the_first_wrong_one_counts(self):
        refuses(self, BadRow, "at", 1, Table, "ab", [RIGHT, ((0, 0), 1, 1, 0), None])
        refuses(self, BadRow, "at", 150, Table, "a", [((0,), 1, 1, 1)] * 150 + [((0,), 1, 0, 1), None])

    def test_as_many_keys_as_columns(self):
        for columns in ALL_COLUMNS:
            for many in range(6):
                row = ((0,) * many, 1, 1, 1)
                if many == len(columns):
                    self.assertEqual(Table(columns, [row])[0], row)
                else:
                    refuses(self, BadRow, "at", 0, Table, columns, [row])

    def test_a_bare_row_is_a_list_of_wrong_items(self):
        refuses(self, BadRow, "at", 0, Table, "ab", RIGHT)


class Places(unittest.TestCase):

    def test_any_value(self):
        table = Table("ab", ROWS)
        for value in [*any_values(), 4, 5, -4, -5, 1.0, "0", (0,), slice(0, 1), table]:
            if type(value) is not int or not 0 <= value < 4:
                refuses(self, NoPlace, "place", value, lambda given: table[given], value)

    def test_at_the_ends(self):
        table = Table("ab", ROWS[:2])
        self.assertEqual((table[0], table[1]), ROWS[:2])
        for value in (2, -1, True, False, "1", None):
            refuses(self, NoPlace, "place", value, table.__getitem__, value)

    def test_no_rows(self):
        for value in (0, -1, True):
            refuses(self, NoPlace, "place", value, Table("ab", []).__getitem__, value)

    def test_tables_are_not_iterated_over(self):
        for table in (Table("ab", ROWS), Table("ab", [])):
            for work in (iter, list, tuple, sorted, sum, set, enumerate, lambda one: [row for row in one],
                         lambda one: [*one], lambda one: RIGHT in one, lambda one: zip(one)):
                self.assertRaises(TypeError, work, table)
        with self.assertRaises(TypeError):
            _, _ = Table("ab", ROWS[:2])


class Imitation:
    """Looks like a table, without being one."""

    columns = _columns = "ab"
    rows = _rows = ROWS

    def __len__(self):
        return 4


class Equality(unittest.TestCase):

    def test_the_same_columns_and_rows(self):
        table = Table("ab", ROWS)
        compares(self, table, table, True)
        compares(self, table, Table("ab", list(ROWS)), True)
        compares(self, Table("ab", []), Table("ab", ()), True)

    def test_other_columns(self):
        for one, other in itertools.product(ALL_COLUMNS, repeat=2):
            compares(self, Table(one, []), Table(other, []), one == other)
        compares(self, Table("ab", ROWS), Table("ac", ROWS), False)

    def test_other_rows(self):
        table = Table("ab", ROWS)
        compares(self, table, Table("ab", ROWS[::-1]), False)
        compares(self, table, Table("ab", ROWS[:3]), False)
        compares(self, table, Table("ab", [*ROWS, RIGHT]), False)
        compares(self, table, Table("ab", []), False)
        for change in (((1, 0), 6, 1, 1), ((0, 1), 6, 1, 1), ((0, 0), 7, 1, 1), ((0, 0), 6, 2, 1), ((0, 0), 6, 1, 2)):
            compares(self, table, Table("ab", (change, *ROWS[1:])), False)

    def test_values_of_another_kind(self):
        table = Table("ab", ROWS)
        for other in [*any_values(), Imitation(), ROWS, list(ROWS), ("ab", ROWS), object(), Table, Scheme("ab")]:
            compares(self, table, other, False)

    def test_comparing_changes_nothing(self):
        one, other = Table("ab", ROWS), Table("ab", ROWS[:2])
        before = copy.deepcopy((vars(one), vars(other)))
        compares(self, one, other, False)
        self.assertEqual((vars(one), vars(other)), before)


class Groups(unittest.TestCase):

    def test_told_in_full(self):
        table = Table("ab", [((1, 0), 1, 1, 1), ((0, 0), 1, 1, 1), ((1, 2), 1, 1, 1), ((1, 0), 9, 9, 9),
                             ((0, 1), 1, 1, 1)])
        singles = [[0], [1], [2], [3], [4]]
        wanted = {"": [[0, 1, 2, 3, 4]], "a": [[0, 2, 3], [1, 4]], "b": [[0, 1, 3], [2], [4]],
                  "ab": [[0, 3], [1], [2], [4]], "r": singles, "ar": singles, "br": singles, "abr": singles}
        for letters, groups in wanted.items():
            self.assertTrue(same(table.groups(letters), groups), letters)
            self.assertTrue(same(table.groups(letters=letters), groups), letters)

    def test_no_rows_and_one(self):
        for columns in ALL_COLUMNS:
            for letters in sets_of(columns):
                self.assertTrue(same(Table(columns, []).groups(letters), []))
                self.assertTrue(same(Table(columns, [((3,) * len(columns), 1, 1, 1)]).groups(letters), [[0]]))

    def test_equal_rows_are_parted_by_r_alone(self):
        table = Table("ab", [RIGHT] * 3)
        for letters in sets_of("ab"):
            self.assertEqual(table.groups(letters), [[0], [1], [2]] if "r" in letters else [[0, 1, 2]])

    def test_keys_in_unlike_columns_are_not_mixed_up(self):
        table = Table("abc", [((0, 1, 2), 1, 1, 1), ((1, 0, 2), 1, 1, 1), ((2, 1, 0), 1, 1, 1), ((0, 12, 0), 1, 1, 1),
                              ((0, 1, 20), 1, 1, 1)])
        self.assertEqual(table.groups("ac"), [[0], [1], [2], [3], [4]])
        self.assertEqual(table.groups("ab"), [[0, 4], [1], [2], [3]])
        self.assertEqual(table.groups("b"), [[0, 2, 4], [1], [3]])

    def test_a_spread(self):
        chance = random.Random(1)
        for _ in range(150):
            columns = chance.choice(ALL_COLUMNS)
            table = Table(columns, [some_row(chance, columns) for _ in range(chance.randint(0, 12))])
            for letters in sets_of(columns):
                wanted = [list(one) for one in reference.groups(columns, table.rows, letters)]
                self.assertTrue(same(table.groups(letters), wanted))

    def test_new_each_time(self):
        table = Table("ab", ROWS)
        first = table.groups("a")
        first[0].append(7)
        first.append([9])
        self.assertEqual(table.groups("a"), [[0, 1, 2], [3]])
        second = table.groups("a")
        self.assertIsNot(second, table.groups("a"))
        self.assertIsNot(second[0], table.groups("a")[0])

    def test_sets_that_are_none(self):
        for columns in ALL_COLUMNS:
            table = Table(columns, [((0,) * len(columns), 1, 1, 1)])
            for letters in sets_of("abcd"):
                if letters not in sets_of(columns):
                    refuses(self, BadSet, "letters", letters, table.groups, letters)
        for table in (Table("ab", ROWS), Table("ab", [])):
            for wrong in [*any_values(), "ra", "rr", "aab", "abc", "a b", "R", "abrr", table]:
                if type(wrong) is not str or wrong not in sets_of("ab"):
                    refuses(self, BadSet, "letters", wrong, table.groups, wrong)


class Broken(unittest.TestCase):

    def test_the_first_one_that_is_not_kept(self):
        table = Table("ab", [((0, 0), 1, 1, 1), ((0, 1), 1, 1, 1), ((1, 1), 1, 1, 1)])
        for dependences, wanted in [
            ([], None), ([("a", "b")], 0), ([("b", "a")], 0), ([("ab", "r")], None), ([("r", "a")], None),
            ([("ab", "r"), ("a", "b"), ("b", "a")], 1), ([("a", "a"), ("ab", "r"), ("", "a")], 2),
            ([("", "b"), ("a", "b")], 0), ([("a", "r")], 0), ([("b", "r")], 0), ([("", "r")], 0),
            ([("ab", "r"), ("ab", "r"), ("a", "b"), ("a", "b")], 2), ([("br", "a"), ("br", "r"), ("abr", "b")], None),
            ([("ab", "r")] * 19 + [("a", "b")], 19),
        ]:
            self.assertTrue(same(table.broken(Scheme("ab", dependences)), wanted), dependences)
            self.assertTrue(same(table.broken(scheme=Scheme("ab", dependences)), wanted), dependences)

    def test_on_r_no_two_rows_agree(self):
        table = Table("ab", [((0, 0), 1, 1, 1), ((0, 0), 2, 1, 1), ((1, 1), 1, 1, 1)])
        for letters in sets_of("ab"):
            self.assertEqual(table.broken(Scheme("ab", [(letters, "r")])), None if "r" in letters else 0)

    def test_no_rows_and_one_keep_all(self):
        for columns in ALL_COLUMNS:
            for one in dependences_of(columns):
                self.assertIsNone(Table(columns, []).broken(Scheme(columns, [one])))
                self.assertIsNone(Table(columns, [((7,) * len(columns), 1, 1, 1)]).broken(Scheme(columns, [one])))

    def test_on_the_empty_set(self):
        self.assertIsNone(Table("ab", [((4, 0), 1, 1, 1), ((4, 1), 1, 1, 1)]).broken(Scheme("ab", [("", "a")])))
        self.assertEqual(Table("ab", [((4, 0), 1, 1, 1), ((5, 0), 1, 1, 1)]).broken(Scheme("ab", [("", "a")])), 0)
        self.assertEqual(Table("ab", [((4, 0), 1, 1, 1)] * 2).broken(Scheme("ab", [("", "a"), ("", "r")])), 1)

    def test_not_only_neighbours_count(self):
        table = Table("ab", [((0, 0), 1, 1, 1), ((1, 1), 1, 1, 1), ((2, 2), 1, 1, 1), ((0, 3), 1, 1, 1)])
        self.assertEqual(table.broken(Scheme("ab", [("b", "a"), ("a", "b")])), 1)

    def test_each_dependence_in_a_spread(self):
        chance = random.Random(2)
        for _ in range(60):
            columns = chance.choice(ALL_COLUMNS)
            rows = [some_row(chance, columns, 1) for _ in range(chance.randint(0, 5))]
            some = chance.sample(dependences_of(columns), min(20, len(dependences_of(columns))))
            for one in some:
                wanted = None if reference.keeps(columns, rows, one) else 0
                self.assertTrue(same(Table(columns, rows).broken(Scheme(columns, [one])), wanted))
            wanted = [at for at, one in enumerate(some) if not reference.keeps(columns, rows, one)]
            self.assertEqual(Table(columns, rows).broken(Scheme(columns, some)), wanted[0] if wanted else None)

    def test_other_columns(self):
        for one, other in itertools.product(ALL_COLUMNS, repeat=2):
            if one != other:
                for rows in ([], [((0,) * len(one), 1, 1, 1)]):
                    refuses(self, BadColumns, "given", other, Table(one, rows).broken, Scheme(other, [("", "r")]))


class Product(unittest.TestCase):

    def test_told_in_full(self):
        one = Table("ab", [((1, 0), 2, 3, 5), ((0, 2), -1, 1, 1)])
        two = Table("ab", [((0, 1), 7, 2, 1), ((2, 0), 0, 1, 9), ((1, 1), 3, 1, 1)])
        wanted = (
            ((3, 1), 14, 6, 5), ((5, 0), 0, 3, 45), ((4, 1), 6, 3, 5),
            ((0, 5), -7, 2, 1), ((2, 4), 0, 1, 9), ((1, 5), -3, 1, 1),
        )
        self.assertTrue(same((one * two).rows, wanted))
        self.assertTrue(same((one * two).columns, "ab"))
        self.assertIs(type(one * two), Table)

    def test_one_and_the_other_way_round(self):
        one, two = Table("a", [((1,), 1, 1, 1)]), Table("a", [((0,), 1, 1, 1), ((3,), 2, 2, 2)])
        self.assertEqual((one * two).rows, (((4,), 1, 1, 1), ((7,), 2, 2, 2)))
        self.assertEqual((two * one).rows, (((1,), 1, 1, 1), ((7,), 2, 2, 2)))

    def test_no_rows(self):
        some, none = Table("ab", ROWS), Table("ab", [])
        for product in (some * none, none * some, none * none):
            self.assertTrue(same((product.columns, product.rows), ("ab", ())))

    def test_a_table_times_itself(self):
        for table in (Table("ab", ROWS), Table("ab", ROWS[:1]), Table("ab", [])):
            product = table * table
            self.assertEqual(len(product), len(table) ** 2)
            self.assertEqual(product.rows, reference.paired(table, table))

    def test_a_spread(self):
        chance = random.Random(3)
        for _ in range(100):
            columns = chance.choice(ALL_COLUMNS)
            one, two = [Table(columns, [some_row(chance, columns, 4) for _ in range(chance.randint(0, 5))])
                        for _ in range(2)]
            self.assertTrue(same((one * two).rows, reference.paired(one, two)))

    def test_rows_agree_exactly_if_both_pairs_do(self):
        chance = random.Random(4)
        for _ in range(20):
            columns = chance.choice(ALL_COLUMNS)
            one, two = [Table(columns, [some_row(chance, columns) for _ in range(chance.randint(1, 4))])
                        for _ in range(2)]
            pairs = list(itertools.product(range(len(one)), range(len(two))))
            for letters in sets_of(columns):
                wanted = {tuple(at for at, (q, s) in enumerate(pairs)
                                if reference.agree(columns, one.rows, letters, p, q)
                                and reference.agree(columns, two.rows, letters, r, s)) for p, r in pairs}
                self.assertEqual((one * two).groups(letters), [list(group) for group in sorted(wanted)])

    def test_it_keeps_what_both_keep(self):
        chance = random.Random(5)
        for _ in range(60):
            scheme = some_scheme(chance)
            one, two = some_table(chance, scheme), some_table(chance, scheme)
            self.assertIsNone(one.broken(scheme))
            self.assertIsNone((one * two).broken(scheme))

    def test_both_stay(self):
        one, two = Table("ab", ROWS), Table("ab", ROWS[1:])
        one * two
        self.assertEqual((one, two), (Table("ab", ROWS), Table("ab", ROWS[1:])))

    def test_other_columns(self):
        for one, other in itertools.product(ALL_COLUMNS, repeat=2):
            if one != other:
                refuses(self, BadColumns, "given", other, lambda: Table(one, []) * Table(other, []))
        one, two = Table("ab", ROWS), Table("bc", ROWS)
        refuses(self, BadColumns, "given", "bc", lambda: one * two)
        self.assertEqual((one, two), (Table("ab", ROWS), Table("bc", ROWS)))

    def test_no_table(self):
        for other in (2, None, ROWS, Scheme("ab")):
            self.assertRaises(TypeError, lambda: Table("ab", ROWS) * other)


class ErrorsChangeNothing(unittest.TestCase):

    def test_a_table_stays(self):
        table = Table("ab", ROWS)
        before = copy.deepcopy(vars(table))
        raised(self, NoPlace, lambda: table[4])
        raised(self, BadSet, table.groups, "ba")
        raised(self, BadColumns, table.broken, PAIRS[0])
        raised(self, BadColumns, lambda: table * Table("a", []))
        self.assertRaises(TypeError, list, table)
        self.assertEqual(vars(table), before)

    def test_a_list_stays(self):
        given = [RIGHT, None]
        raised(self, BadRow, Table, "ab", given)
        self.assertEqual(given, [RIGHT, None])


if __name__ == "__main__":
    unittest.main()
