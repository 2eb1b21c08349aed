"""Fractions: what is one, how one is made, sums and products."""

import copy
import itertools
import unittest
from fractions import Fraction

from meanways.errors import BadNumber
from meanways.exact import added, fraction, is_fraction, multiplied
from meanways.schemes import Scheme
from some_values import any_values, refuses, same

SOME = [(0, 1), (1, 1), (-1, 1), (1, 2), (-1, 2), (2, 3), (5, 6), (-7, 12), (9, 4), (10 ** 60 + 1, 10 ** 60)]
NO_LISTS = [value for value in any_values() if not isinstance(value, (list, tuple))]


def is_one(value):
    """Whether a value is a fraction, told divisor by divisor."""
    if type(value) is not tuple or len(value) != 2 or type(value[0]) is not int or type(value[1]) is not int:
        return False
    return value[1] >= 1 and not any(value[0] % k == 0 and value[1] % k == 0 for k in range(2, value[1] + 1))


def pair(number):
    return (number.numerator, number.denominator)


class IsFraction(unittest.TestCase):

    def test_all_small_pairs(self):
        for top, bottom in itertools.product(range(-13, 14), repeat=2):
            self.assertIs(is_fraction((top, bottom)), is_one((top, bottom)), (top, bottom))

    def test_edges(self):
        for right in ((0, 1), (1, 1), (-1, 1), (7, 1), (-3, 2), (10 ** 300, 1), (1, 10 ** 300), (2 ** 200, 3 ** 200)):
            self.assertIs(is_fraction(right), True)
        for wrong in ((0, 2), (0, 0), (1, 0), (-1, 0), (1, -1), (2, 2), (6, 4), (-6, 4), (3, -2),
                      (10 ** 300, 5), (2 ** 200, 6 ** 200)):
            self.assertIs(is_fraction(wrong), False)

    def test_bools_are_no_numbers(self):
        for wrong in ((True, 1), (False, 1), (1, True), (0, True), (True, True), (True, 2)):
            self.assertIs(is_fraction(wrong), False)

    def test_a_list_is_no_tuple(self):
        for wrong in ([1, 2], [0, 1], [(1, 2)], {1: 2}, "12"):
            self.assertIs(is_fraction(wrong), False)

    def test_other_lengths_and_items(self):
        for wrong in ((), (1,), (1, 2, 3), ((1, 2),), ("1", 2), (1, "2"), (None, 1), (1, None), ((1,), 2), (1, (2,)),
                      ([1], 2), ({}, 1), (1, Scheme("a")), (Scheme("a"), 1)):
            self.assertIs(is_fraction(wrong), False)

    def test_any_value(self):
        self.assertEqual([value for value in any_values() if is_fraction(value)], [(1, 2)])
        for value in any_values():
            before = copy.deepcopy(value)
            self.assertIn(is_fraction(value), (True, False))
            self.assertTrue(same(value, before))

    def test_by_name(self):
        self.assertIs(is_fraction(thing=(1, 2)), True)


class MakingFractions(unittest.TestCase):

    def test_all_small_ones(self):
        for top, bottom in itertools.product(range(-40, 41), range(1, 41)):
            made = fraction(top, bottom)
            self.assertTrue(is_one(made), (top, bottom))
            self.assertEqual(made[0] * bottom, top * made[1])

    def test_edges(self):
        self.assertEqual(fraction(0, 7), (0, 1))
        self.assertEqual(fraction(0), (0, 1))
        self.assertEqual(fraction(-6, 4), (-3, 2))
        self.assertEqual(fraction(-4, 4), (-1, 1))
        self.assertEqual(fraction(5, 1), (5, 1))

    def test_many_figures(self):
        self.assertEqual(fraction(6 * 10 ** 500, 4 * 10 ** 499), (15, 1))
        self.assertEqual(fraction(-(7 ** 300) * 2 ** 90, 2 ** 100 * 3), (-(7 ** 300), 3 * 2 ** 10))
        self.assertEqual(fraction(10 ** 5000 + 1, 10 ** 5000), (10 ** 5000 + 1, 10 ** 5000))

    def test_bottom_left_out(self):
        for top in range(-9, 10):
            self.assertEqual(fraction(top), (top, 1))

    def test_by_name(self):
        self.assertEqual(fraction(top=6), (6, 1))
        self.assertEqual(fraction(top=6, bottom=4), (3, 2))
        self.assertEqual(fraction(bottom=4, top=-6), (-3, 2))
        self.assertEqual(fraction(6, bottom=4), (3, 2))

    def test_wrong_top(self):
        for value in any_values():
            if type(value) is not int:
                refuses(self, BadNumber, "number", value, fraction, value)
                refuses(self, BadNumber, "number", value, fraction, value, 3)

    def test_wrong_bottom(self):
        for value in any_values():
            if type(value) is not int or value < 1:
                refuses(self, BadNumber, "number", value, fraction, 5, value)
        for value in (0, -1, -5, True, False):
            refuses(self, BadNumber, "number", value, fraction, 0, value)

    def test_top_ahead_of_bottom(self):
        refuses(self, BadNumber, "number", "5", fraction, "5", 0)
        refuses(self, BadNumber, "number", True, fraction, True, False)
        refuses(self, BadNumber, "number", None, fraction, None, None)


class SumsAndProducts(unittest.TestCase):

    def test_of_none(self):
        for none in ([], ()):
            self.assertEqual(added(none), (0, 1))
            self.assertEqual(multiplied(none), (1, 1))

    def test_of_one_two_and_three(self):
        for many in (1, 2, 3):
            for some in itertools.product(SOME, repeat=many):
                numbers = [Fraction(*one) for one in some]
                total = Fraction(1)
                for number in numbers:
                    total *= number
                self.assertTrue(same(added(list(some)), pair(sum(numbers, Fraction(0)))), some)
                self.assertTrue(same(multiplied(list(some)), pair(total)), some)

    def test_of_many(self):
        numbers = [Fraction(k * k - 50, k + 1) for k in range(1, 40)]
        total = Fraction(1)
        for number in numbers:
            total *= number
        some = [pair(number) for number in numbers]
        self.assertEqual(added(some), pair(sum(numbers)))
        self.assertEqual(multiplied(some), pair(total))

    def test_edges(self):
        self.assertEqual(added([(1, 2), (-1, 2)]), (0, 1))
        self.assertEqual(added([(1, 6), (1, 3)]), (1, 2))
        self.assertEqual(multiplied([(2, 3), (3, 2)]), (1, 1))
        self.assertEqual(multiplied([(2, 3), (0, 1), (-5, 7)]), (0, 1))
        self.assertEqual(multiplied([(-2, 3), (-3, 4)]), (1, 2))

    def test_lists_and_tuples(self):
        self.assertEqual(added(((1, 2), (1, 3))), (5, 6))
        self.assertEqual(multiplied(((1, 2), (2, 3))), (1, 3))

    def test_by_name(self):
        self.assertEqual(added(fractions=[(1, 2), (1, 3)]), (5, 6))
        self.assertEqual(multiplied(fractions=[(1, 2), (2, 3)]), (1, 3))


class WrongSums(unittest.TestCase):

    def test_no_list(self):
        for work in (added, multiplied):
            for value in NO_LISTS:
                refuses(self, BadNumber, "number", value, work, value)

    def test_an_item_that_is_no_fraction(self):
        for work in (added, multiplied):
            for value in any_values():
                if not is_one(value):
                    for given in ([value], (value,), [(1, 2), value], [(0, 1), (0, 1), value, (1, 3)]):
                        refuses(self, BadNumber, "number", value, work, given)

    def test_the_first_one_is_told(self):
        for work in (added, multiplied):
            refuses(self, BadNumber, "number", (2, 4), work, [(1, 2), (2, 4), (1, 0), "x"])
            refuses(self, BadNumber, "number", "x", work, ["x", (2, 4)])
            refuses(self, BadNumber, "number", [1, 2], work, [(1, 2), [1, 2], None])
            refuses(self, BadNumber, "number", 1, work, (1, 2))

    def test_what_is_passed_stays_as_it_is(self):
        for work in (added, multiplied):
            right = [(1, 2), (-1, 3), (0, 1)]
            work(right)
            self.assertEqual(right, [(1, 2), (-1, 3), (0, 1)])
            for wrong in ([(1, 2), [2, [3]]], [[1], (1, 2)], [(2, 4), {"a": [1]}]):
                before = copy.deepcopy(wrong)
                with self.assertRaises(BadNumber):
                    work(wrong)
                self.assertTrue(same(wrong, before))

    def test_what_is_told_stays_as_it_was(self):
        for work in (added, multiplied):
            inner = [1, 2]
            with self.assertRaises(BadNumber) as held:
                work([(1, 2), inner])
            inner.append(3)
            self.assertEqual(held.exception.number, [1, 2])


if __name__ == "__main__":
    unittest.main()
