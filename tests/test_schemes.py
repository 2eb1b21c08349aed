"""Schemes: how they are made and refused, closures, closed sets, further dependences, equality."""

import copy
import itertools
import unittest

from meanways.errors import BadColumns, BadDependence, BadSet, TooMany
from meanways.schemes import Scheme
from reference import ALL_COLUMNS, dependences_of, grown, sets_of
from some_values import any_values, compares, refuses, same

CHAIN = [("a", "b"), ("b", "c"), ("c", "d"), ("d", "r")]


def some_dependences(columns):
    """Lists of dependences: none, all single ones, and a spread of longer lists."""
    every = dependences_of(columns)
    yield []
    for one in every:
        yield [one]
    for step in (3, 5, 7, 11):
        for first in range(len(every)):
            for many in (2, 3, 4, 7, 20):
                yield [every[(first + step * at) % len(every)] for at in range(many)]


class Made(unittest.TestCase):

    def test_any_columns(self):
        self.assertEqual(len(ALL_COLUMNS), 15)
        for columns in ALL_COLUMNS:
            scheme = Scheme(columns)
            self.assertTrue(same(scheme.columns, columns))
            self.assertTrue(same(scheme.dependences, ()))

    def test_each_single_dependence(self):
        for columns in ALL_COLUMNS:
            for one in dependences_of(columns):
                self.assertTrue(same(Scheme(columns, [one]).dependences, (one,)))

    def test_no_dependences(self):
        for none in ([], ()):
            self.assertTrue(same(Scheme("ab", none).dependences, ()))

    def test_list_or_tuple(self):
        some = [("a", "b"), ("", "a"), ("ar", "r"), ("r", "b"), ("abr", "a")]
        self.assertTrue(same(Scheme("ab", some).dependences, tuple(some)))
        self.assertTrue(same(Scheme("ab", tuple(some)).dependences, tuple(some)))

    def test_as_passed_also_twice_and_in_any_sequence(self):
        some = [("b", "r"), ("a", "a"), ("b", "r"), ("", "b")]
        self.assertEqual(Scheme("ab", some).dependences, tuple(some))
        self.assertEqual(Scheme("ab", some[::-1]).dependences, tuple(some[::-1]))

    def test_up_to_twenty(self):
        every = dependences_of("abc")
        for many in range(21):
            self.assertEqual(Scheme("abc", every[:many]).dependences, tuple(every[:many]))
            self.assertEqual(Scheme("a", [("a", "r")] * many).dependences, (("a", "r"),) * many)

    def test_a_later_change_of_the_list_has_no_effect(self):
        given = [("a", "b")]
        scheme = Scheme("ab", given)
        given.append(("b", "r"))
        given[0] = ("", "r")
        self.assertEqual(scheme.dependences, (("a", "b"),))
        self.assertEqual(scheme.closure("a"), "ab")
        self.assertEqual(scheme.closed_sets(), ["", "b", "ab", "abr"])
        self.assertEqual(scheme, Scheme("ab", [("a", "b")]))

    def test_what_is_passed_stays_as_it_is(self):
        given = [("b", "r"), ("a", "b")]
        Scheme("ab", given).with_more(given)
        self.assertEqual(given, [("b", "r"), ("a", "b")])

    def test_by_name(self):
        scheme = Scheme(columns="bd", dependences=[("b", "d")])
        self.assertEqual((scheme.columns, scheme.dependences), ("bd", (("b", "d"),)))
        self.assertEqual(Scheme(dependences=(), columns="c").columns, "c")
        self.assertEqual(Scheme("bd", dependences=[("d", "r")]).dependences, (("d", "r"),))

    def test_properties_are_not_assigned(self):
        scheme = Scheme("ab")
        with self.assertRaises(AttributeError):
            scheme.columns = "abc"
        with self.assertRaises(AttributeError):
            scheme.dependences = ()


class Columns(unittest.TestCase):

    def test_all_short_strings(self):
        for many in range(6):
            for some in itertools.product("abcdr", repeat=many):
                given = "".join(some)
                if given in ALL_COLUMNS:
                    self.assertEqual(Scheme(given).columns, given)
                else:
                    refuses(self, BadColumns, "given", given, Scheme, given)

    def test_other_strings(self):
        for given in ("e", "A", "ab ", " ab", "a b", "a,b", "abcde", "abe", "1", "a" * 1000, "abcd" * 250, "ab\n"):
            refuses(self, BadColumns, "given", given, Scheme, given)

    def test_any_value(self):
        for value in any_values():
            if value not in ALL_COLUMNS or type(value) is not str:
                refuses(self, BadColumns, "given", value, Scheme, value)
                refuses(self, BadColumns, "given", value, Scheme, columns=value)

    def test_ahead_of_dependences(self):
        for wrong in (None, 5, "ab", [5], [("a", "c")], [("a", "b")] * 21):
            refuses(self, BadColumns, "given", "ba", Scheme, "ba", wrong)
            refuses(self, BadColumns, "given", ["a"], Scheme, dependences=wrong, columns=["a"])


WRONG_FOR_AB = [
    ("a",), (), ("a", "b", "r"), ["a", "b"], [("a", "b")], (("a", "b"),), "ab", "a", {"a": "b"}, {}, None, True, 5, 0,
    ("ba", "r"), ("aa", "r"), ("ra", "b"), ("rr", "b"), ("c", "a"), ("ac", "b"), ("a ", "b"), ("A", "b"), ("d", "r"),
    ("a", ""), ("a", "ab"), ("a", "br"), ("a", "ba"), ("a", "c"), ("a", "d"), ("a", "R"), ("a", " "), ("a", "bb"),
    ("a", None), (None, "a"), ("a", True), (True, "a"), ("a", 1), (1, "a"), ("a", ["b"]), (["a"], "b"),
    (("a",), "b"), ("a", ("b",)), ({}, "a"), ("", {}), ("", []), ([], "a"), ((), "a"), ("", ""), Scheme("ab"),
]


class Dependences(unittest.TestCase):

    def works(self):
        """The calls that take dependences over a and b."""
        scheme = Scheme("ab")
        return (lambda given: Scheme("ab", given)), (lambda given: scheme.with_more(given))

    def test_items_that_are_none(self):
        for work in self.works():
            for wrong in WRONG_FOR_AB:
                refuses(self, BadDependence, "at", 0, work, [wrong])
                refuses(self, BadDependence, "at", 0, work, (wrong,))
                refuses(self, BadDependence, "at", 2, work, [("a", "b"), ("", "r"), wrong, wrong])

    def test_any_value_as_item(self):
        for work in self.works():
            for value in any_values():
                if value != ("a", "b"):
                    refuses(self, BadDependence, "at", 1, work, [("ar", "b"), value])

    def test_which_letters_depends_on_the_columns(self):
        for columns in ALL_COLUMNS:
            for one in dependences_of("abcd"):
                if set(one[0] + one[1]) <= set(columns + "r"):
                    self.assertEqual(Scheme(columns).with_more([one]).dependences, (one,))
                else:
                    refuses(self, BadDependence, "at", 0, Scheme, columns, [one])

    def test_the_first_wrong_one_at_each_place(self):
        right = dependences_of("ab")[:20]
        for work in self.works():
            for at in range(20):
                for wrong in (("a", "c"), None, ["a", "b"]):
                    refuses(self, BadDependence, "at", at, work, right[:at] + [wrong])
                    refuses(self, BadDependence, "at", at, work, right[:at] + [wrong] + right[at + 1:])
                    refuses(self, BadDependence, "at", at, work, right[:at] + [wrong] * 30)

    def test_more_than_twenty(self):
        right = dependences_of("ab")[:20]
        for work in self.works():
            for more in ([("a", "b")], [("a", "b")] * 9, [None], ["x", ("a", "b")], [("a", "b"), ("a", "c")]):
                refuses(self, BadDependence, "at", 20, work, right + more)
                refuses(self, BadDependence, "at", 20, work, tuple(right + more))

    def test_no_list(self):
        for work in self.works():
            for value in any_values():
                if not isinstance(value, (list, tuple)):
                    refuses(self, BadDependence, "at", None, work, value)

    def test_a_bare_dependence_is_a_list_of_two_wrong_items(self):
        for work in self.works():
            refuses(self, BadDependence, "at", 0, work, ("a", "b"))


class Closure(unittest.TestCase):

    def check(self, columns, dependences):
        scheme = Scheme(columns, dependences)
        for letters in sets_of(columns):
            told = scheme.closure(letters)
            self.assertTrue(same(told, grown(columns, dependences, letters)), (columns, dependences, letters))

    def test_without_dependences(self):
        for columns in ALL_COLUMNS:
            self.check(columns, [])
            self.assertEqual(Scheme(columns).closure("r"), columns + "r")
            self.assertEqual(Scheme(columns).closure(""), "")
            self.assertEqual(Scheme(columns).closure(columns), columns)

    def test_all_lists_of_different_ones_over_one_column(self):
        every = dependences_of("c")
        for many in range(len(every) + 1):
            for some in itertools.combinations(every, many):
                self.check("c", list(some))

    def test_all_pairs_over_two_columns(self):
        for pair in itertools.product(dependences_of("bd"), repeat=2):
            self.check("bd", list(pair))

    def test_a_spread_over_three_and_four_columns(self):
        for columns in ("abc", "acd", "abcd"):
            for some in some_dependences(columns):
                self.check(columns, some)

    def test_chains_in_whatever_sequence(self):
        for chain in (CHAIN, [("", "d"), ("d", "b"), ("bd", "a"), ("abd", "c")],
                      [("a", "d"), ("ad", "c"), ("cd", "r"), ("r", "b")]):
            for some in itertools.permutations(chain):
                self.check("abcd", list(some))
        for some in itertools.permutations(CHAIN):
            self.assertEqual(Scheme("abcd", some).closure("a"), "abcdr")
            self.assertEqual(Scheme("abcd", some).closure(""), "")
        for some in itertools.permutations(CHAIN[:3]):
            self.assertEqual(Scheme("abcd", some).closure("a"), "abcd")
            self.assertEqual(Scheme("abcd", some).closure("b"), "bcd")

    def test_edges(self):
        self.assertEqual(Scheme("ab", [("", "a")]).closure(""), "a")
        self.assertEqual(Scheme("ab", [("", "r")]).closure(""), "abr")
        self.assertEqual(Scheme("ab", [("a", "r")]).closure("a"), "abr")
        self.assertEqual(Scheme("ab", [("a", "r")]).closure("b"), "b")
        self.assertEqual(Scheme("ab", [("ab", "r")]).closure("a"), "a")
        self.assertEqual(Scheme("ab", [("ab", "r")]).closure("ab"), "abr")
        self.assertEqual(Scheme("ab", [("br", "a")]).closure("b"), "b")
        self.assertEqual(Scheme("ab").closure("ar"), "abr")
        self.assertEqual(Scheme("bd", [("d", "b")]).closure("d"), "bd")

    def test_sets_that_are_none(self):
        scheme = Scheme("ab", [("a", "r")])
        for wrong in ("ba", "aa", "ra", "rr", "bar", "arb", "c", "ac", "d", "e", "R", "A", "ab ", " ", "a b", "a,b",
                      "abrr", "abcr", "ab" * 500):
            refuses(self, BadSet, "letters", wrong, scheme.closure, wrong)
        for columns in ALL_COLUMNS:
            for letters in sets_of("abcd"):
                if letters not in sets_of(columns):
                    refuses(self, BadSet, "letters", letters, Scheme(columns).closure, letters)

    def test_any_value(self):
        scheme = Scheme("ab")
        for value in any_values():
            if type(value) is not str or value not in sets_of("ab"):
                refuses(self, BadSet, "letters", value, scheme.closure, value)

    def test_by_name(self):
        self.assertEqual(Scheme("ab", [("a", "b")]).closure(letters="a"), "ab")


class ClosedSets(unittest.TestCase):

    def check(self, columns, dependences):
        wanted = [letters for letters in sets_of(columns) if grown(columns, dependences, letters) == letters]
        told = Scheme(columns, dependences).closed_sets()
        self.assertTrue(same(told, wanted), (columns, dependences))

    def test_without_dependences(self):
        self.assertEqual(Scheme("a").closed_sets(), ["", "a", "ar"])
        self.assertEqual(Scheme("bd").closed_sets(), ["", "b", "d", "bd", "bdr"])
        self.assertEqual(Scheme("abcd").closed_sets(),
                         ["", "a", "b", "c", "d", "ab", "ac", "ad", "bc", "bd", "cd", "abc", "abd", "acd", "bcd",
                          "abcd", "abcdr"])

    def test_with_dependences(self):
        self.assertEqual(Scheme("ab", [("", "r")]).closed_sets(), ["abr"])
        self.assertEqual(Scheme("ab", [("a", "b"), ("b", "r")]).closed_sets(), ["", "abr"])
        self.assertEqual(Scheme("abc", [("", "b"), ("a", "c")]).closed_sets(), ["b", "bc", "abc", "abcr"])
        for columns in ALL_COLUMNS:
            for some in some_dependences(columns):
                self.check(columns, some)

    def test_a_new_list_each_time(self):
        scheme = Scheme("ab")
        first = scheme.closed_sets()
        self.assertIsNot(first, scheme.closed_sets())
        first.clear()
        self.assertEqual(scheme.closed_sets(), ["", "a", "b", "ab", "abr"])
        self.assertEqual(scheme.closure("b"), "b")
        self.assertEqual(scheme, Scheme("ab"))


class WithMore(unittest.TestCase):

    def test_behind_its_own_ones(self):
        first = Scheme("abc", [("b", "a"), ("a", "c")])
        more = first.with_more([("c", "r"), ("b", "a")])
        self.assertIsInstance(more, Scheme)
        self.assertTrue(same(more.dependences, (("b", "a"), ("a", "c"), ("c", "r"), ("b", "a"))))
        self.assertEqual(more.columns, "abc")
        self.assertEqual(more.closure("b"), "abcr")
        self.assertEqual(more.closed_sets(), ["", "abcr"])

    def test_the_first_scheme_stays_as_it_is(self):
        first = Scheme("ab", [("b", "a")])
        first.with_more([("a", "r")])
        self.assertRaises(BadDependence, first.with_more, [("a", "b"), None])
        self.assertRaises(TooMany, first.with_more, [("a", "b")] * 20)
        self.assertEqual(first.dependences, (("b", "a"),))
        self.assertEqual(first.closed_sets(), ["", "a", "ab", "abr"])
        self.assertEqual(first.closure("b"), "ab")

    def test_none_more(self):
        first = Scheme("ab", [("b", "a")])
        for none in ([], ()):
            self.assertEqual(first.with_more(none), first)
            self.assertEqual(first.with_more(none).dependences, first.dependences)

    def test_list_or_tuple_by_place_or_name(self):
        for more in ([("a", "r")], (("a", "r"),)):
            self.assertEqual(Scheme("ab").with_more(more).dependences, (("a", "r"),))
            self.assertEqual(Scheme("ab").with_more(dependences=more).dependences, (("a", "r"),))

    def test_a_later_change_of_the_list_has_no_effect(self):
        given = [("a", "r")]
        more = Scheme("ab").with_more(given)
        given.append(("b", "r"))
        self.assertEqual(more.dependences, (("a", "r"),))
        self.assertEqual(more.closure("b"), "b")

    def test_all_numbers_of_dependences(self):
        every = dependences_of("abcd")
        for own, more in itertools.product(range(21), repeat=2):
            scheme = Scheme("abcd", every[:own])
            given = every[30:30 + more]
            if own + more <= 20:
                self.assertEqual(scheme.with_more(given).dependences, tuple(every[:own] + given))
            else:
                refuses(self, TooMany, "limit", 20, scheme.with_more, given)

    def test_wrong_dependences_ahead_of_too_many(self):
        full = Scheme("ab", [("a", "b")] * 20)
        refuses(self, BadDependence, "at", 1, full.with_more, [("a", "b"), ("a", "c")])
        refuses(self, BadDependence, "at", 19, full.with_more, [("a", "b")] * 19 + [None])
        refuses(self, BadDependence, "at", 20, full.with_more, [("a", "b")] * 21)
        refuses(self, BadDependence, "at", None, full.with_more, "ab")
        refuses(self, BadDependence, "at", None, full.with_more, None)
        refuses(self, TooMany, "limit", 20, full.with_more, [("a", "b")])
        self.assertEqual(full.with_more([]), full)


class Imitation:
    """Looks like a scheme over a and b, without being one."""

    columns = _columns = "ab"
    dependences = _dependences = ()
    _closed = tuple(Scheme("ab").closed_sets())

    def closed_sets(self):
        return list(self._closed)


class Equality(unittest.TestCase):

    def test_equal_to_itself_and_its_like(self):
        for columns in ALL_COLUMNS:
            one = Scheme(columns, [("", "r")])
            compares(self, one, one, True)
            compares(self, one, Scheme(columns, (("", "r"),)), True)

    def test_unlike_dependences_with_the_same_closed_sets(self):
        compares(self, Scheme("ab", [("a", "b"), ("b", "r")]), Scheme("ab", [("a", "r"), ("b", "a")]), True)
        compares(self, Scheme("ab", [("a", "a"), ("r", "b")]), Scheme("ab"), True)
        compares(self, Scheme("ab", [("a", "b"), ("b", "r")]), Scheme("ab", [("b", "r"), ("a", "b")]), True)
        chained = Scheme("abc", [("a", "b"), ("b", "c")])
        compares(self, Scheme("abc", [("a", "b"), ("b", "c"), ("a", "c")]), chained, True)

    def test_other_closed_sets(self):
        compares(self, Scheme("ab", [("a", "b")]), Scheme("ab"), False)
        compares(self, Scheme("ab", [("a", "b")]), Scheme("ab", [("b", "a")]), False)
        compares(self, Scheme("ab", [("ab", "r")]), Scheme("ab"), False)
        compares(self, Scheme("ab", [("a", "r")]), Scheme("ab", [("a", "b")]), False)

    def test_other_columns(self):
        for one, other in itertools.product(ALL_COLUMNS, repeat=2):
            compares(self, Scheme(one), Scheme(other), one == other)
            compares(self, Scheme(one, [("", "r")]), Scheme(other, [("", "r")]), one == other)

    def test_a_spread(self):
        some = [[], *([one] for one in dependences_of("ab")), *itertools.combinations(dependences_of("ab"), 2)]
        told = [tuple(grown("ab", one, letters) for letters in sets_of("ab")) for one in some]
        schemes = [Scheme("ab", one) for one in some]
        for at, beside in itertools.product(range(0, len(some), 3), range(0, len(some), 5)):
            self.assertIs(schemes[at] == schemes[beside], told[at] == told[beside], (some[at], some[beside]))

    def test_values_of_another_kind(self):
        scheme = Scheme("ab")
        others = [value for value in any_values() if not isinstance(value, Scheme)]
        for other in [*others, Imitation(), ("ab", ()), scheme.closed_sets(), object(), Scheme]:
            compares(self, scheme, other, False)

    def test_comparing_changes_nothing(self):
        one, other = Scheme("ab", [("a", "b")]), Scheme("ab", [("b", "r")])
        before = copy.deepcopy((vars(one), vars(other)))
        compares(self, one, other, False)
        self.assertEqual((vars(one), vars(other)), before)


if __name__ == "__main__":
    unittest.main()
