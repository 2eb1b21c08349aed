"""The names of the interface: that they exist where they are listed, and what their parameters are called."""

import importlib
import inspect
import unittest

LISTED = {
    "errors": {
        "MeanError": None, "BadNumber": ["number"], "BadColumns": ["given"], "BadSet": ["letters"],
        "BadDependence": ["at"], "BadRow": ["at"], "NoPlace": ["place"], "BadWeight": ["weight"],
        "BadLevel": ["letters"], "TooMany": ["limit"], "NoTable": None, "NotKept": ["at"], "NoProduct": ["at"],
        "NothingLeft": None, "BadLog": ["at"], "BadText": ["place"],
    },
    "exact": {
        "is_fraction": ["thing"], "fraction": ["top", "bottom"], "added": ["fractions"], "multiplied": ["fractions"],
    },
    "schemes": {"Scheme": ["columns", "dependences"]},
}
METHODS = {
    ("schemes", "Scheme"): {"closure": ["letters"], "closed_sets": [], "with_more": ["dependences"]},
}
PROPERTIES = {("schemes", "Scheme"): ["columns", "dependences"]}


def listed(module, name):
    return getattr(importlib.import_module("meanways." + module), name)


def parameters(work):
    return list(inspect.signature(work).parameters)


class Names(unittest.TestCase):

    def test_the_package_itself_defines_nothing(self):
        with open(importlib.import_module("meanways").__file__, encoding="utf-8") as file:
            self.assertEqual(file.read(), "")

    def test_each_is_defined_in_its_file(self):
        for module, names in LISTED.items():
            for name in names:
                self.assertEqual(listed(module, name).__module__, "meanways." + module, name)
                self.assertEqual(listed(module, name).__name__, name)

    def test_parameters(self):
        for module, names in LISTED.items():
            for name, wanted in names.items():
                if wanted is not None:
                    self.assertEqual(parameters(listed(module, name)), wanted, name)

    def test_methods_stand_in_the_class_itself(self):
        for (module, name), methods in METHODS.items():
            body = vars(listed(module, name))
            for method, wanted in methods.items():
                self.assertEqual(parameters(body[method])[1:], wanted, method)

    def test_properties(self):
        for (module, name), properties in PROPERTIES.items():
            body = vars(listed(module, name))
            for one in properties:
                self.assertIsInstance(body[one], property, one)

    def test_defaults(self):
        self.assertEqual(inspect.signature(listed("exact", "fraction")).parameters["bottom"].default, 1)
        self.assertEqual(inspect.signature(listed("schemes", "Scheme")).parameters["dependences"].default, ())


if __name__ == "__main__":
    unittest.main()
