"""The errors: which there are, what they are made from, what they hold."""

import unittest

from meanways import errors
from meanways.errors import MeanError
from some_values import any_values, same

ATTRIBUTES = {
    "BadNumber": "number", "BadColumns": "given", "BadSet": "letters", "BadDependence": "at", "BadRow": "at",
    "NoPlace": "place", "BadWeight": "weight", "BadLevel": "letters", "TooMany": "limit", "NotKept": "at",
    "NoProduct": "at", "BadLog": "at", "BadText": "place",
}
FROM_MESSAGE = ("NoTable", "NothingLeft")


class Kinds(unittest.TestCase):

    def test_mean_error_is_a_value_error(self):
        self.assertTrue(issubclass(MeanError, ValueError))
        self.assertEqual(MeanError.__bases__, (ValueError,))

    def test_there_are_fifteen_direct_subclasses_and_no_others(self):
        names = sorted([*ATTRIBUTES, *FROM_MESSAGE])
        self.assertEqual(len(names), 15)
        self.assertEqual(sorted(one.__name__ for one in MeanError.__subclasses__()), names)
        for name in names:
            self.assertEqual(getattr(errors, name).__bases__, (MeanError,), name)
            self.assertEqual(getattr(errors, name).__subclasses__(), [], name)

    def test_each_is_caught_as_mean_error_and_as_value_error(self):
        for name in [*ATTRIBUTES, *FROM_MESSAGE]:
            for caught in (MeanError, ValueError):
                with self.assertRaises(caught):
                    raise getattr(errors, name)("some text")


class Attributes(unittest.TestCase):

    def test_any_value_by_place(self):
        for name, attribute in ATTRIBUTES.items():
            for value in any_values():
                told = getattr(getattr(errors, name)(value), attribute)
                self.assertTrue(same(told, value), name)

    def test_any_value_by_name(self):
        for name, attribute in ATTRIBUTES.items():
            for value in any_values():
                told = getattr(getattr(errors, name)(**{attribute: value}), attribute)
                self.assertTrue(same(told, value), name)

    def test_each_takes_exactly_one_value(self):
        for name, attribute in ATTRIBUTES.items():
            made = getattr(errors, name)
            self.assertRaises(TypeError, made)
            self.assertRaises(TypeError, made, 1, 2)
            self.assertRaises(TypeError, made, **{attribute + "x": 1})

    def test_a_later_change_to_what_was_passed_has_no_effect(self):
        for name, attribute in ATTRIBUTES.items():
            value = [1, [2], {"a": [3]}, ([4],)]
            error = getattr(errors, name)(value)
            value[1].append(5)
            value[2]["a"].append(5)
            value[2]["b"] = 5
            value[3][0].append(5)
            value.append(5)
            self.assertEqual(getattr(error, attribute), [1, [2], {"a": [3]}, ([4],)], name)

    def test_an_object_is_held_itself(self):
        for value in any_values()[-2:]:
            for name, attribute in ATTRIBUTES.items():
                self.assertIs(getattr(getattr(errors, name)(value), attribute), value)

    def test_their_texts_can_be_written(self):
        for name in ATTRIBUTES:
            for value in [*any_values(), 10 ** 5000, [10 ** 5000]]:
                self.assertIsInstance(str(getattr(errors, name)(value)), str)


class Messages(unittest.TestCase):

    def test_made_from_a_message(self):
        for name in FROM_MESSAGE:
            for message in ("", "no such thing", "x" * 1000):
                error = getattr(errors, name)(message)
                self.assertEqual(str(error), message)
                self.assertEqual(error.args, (message,))


if __name__ == "__main__":
    unittest.main()
