"""The names of the interface: that they exist where they are listed, and what their parameters are called."""

import importlib
import inspect
import unittest

LISTED = {
    "errors": {
        "MeanError": None, "BadNumber": ["number"], "BadColumns": ["given"], "BadSet": ["letters"],
        "BadDependence": ["at"], "BadRow": ["at"], "NoPlace": ["place"], "BadWeight": ["weight"],
        "BadLevel": ["letters"], "TooMany": ["limit"], "NoTable": None, "NotKept": ["at"], "NoProduct": ["at"],
        "NothingLeft": None, "BadLog": ["at"], "BadText": ["place"],
    },
    "exact": {
        "is_fraction": ["thing"], "fraction": ["top", "bottom"], "added": ["fractions"], "multiplied": ["fractions"],
    },
    "schemes": {"Scheme": ["columns", "dependences"]},
    "tables": {"Table": ["columns", "rows"]},
    "reports": {"Report": ["scheme"]},
    "forms": {
        "form": ["report"], "product_at": ["product", "table", "at"], "counted": ["report", "table", "at"],
        "by_form": ["report", "table"],
    },
    "parting": {
        "test": ["scheme", "lower", "upper"], "single_test": ["scheme"], "alike": ["one", "other"],
        "parted": ["one", "other"],
    },
    "telling": {
        "tests": ["scheme"], "told_back": ["scheme", "answers"], "telling_lots": ["reports", "tables"],
    },
    "depending": {"simple": ["scheme"], "least_dependences": ["one", "other"]},
    "keeping": {
        "worked_out": ["kept", "report"], "two_tables": ["kept", "report"], "least_lots": ["kepts", "reports"],
    },
    "live": {"Live": ["scheme"]},
    "texts": {
        "report_text": ["report"], "read_report": ["scheme", "text"], "table_text": ["table"], "read_table": ["text"],
    },
    "logs": {"log_of": ["live"], "first_wrong": ["scheme", "log"], "replayed": ["scheme", "log"]},
    "desk": {"Desk": ["scheme"]},
}
METHODS = {
    ("schemes", "Scheme"): {"closure": ["letters"], "closed_sets": [], "with_more": ["dependences"]},
    ("tables", "Table"): {
        "groups": ["letters"], "broken": ["scheme"], "__len__": [], "__getitem__": ["at"], "__mul__": ["other"],
    },
    ("reports", "Report"): {
        "summed": ["letters"], "mean": ["letters"], "weighed": ["letters", "weight"], "share": ["letters", "weight"],
        "times": ["letters"], "over": ["letters"], "parts": [], "under": ["dependences"], "__call__": ["table"],
        "__len__": [], "__add__": ["other"], "__sub__": ["other"],
    },
    ("live", "Live"): {
        "add": ["row"], "drop": ["at"], "tell": ["report"], "changed": ["report"], "undo": [], "attempt": ["work"],
        "copy": [], "__enter__": [], "__exit__": ["kind", "value", "trace"],
    },
    ("desk", "Desk"): {"say": ["row"]},
}
PROPERTIES = {
    ("schemes", "Scheme"): ["columns", "dependences"], ("tables", "Table"): ["columns", "rows"],
    ("reports", "Report"): ["scheme", "level"], ("live", "Live"): ["scheme", "table"],
}
COMPARED = [("tables", "Table"), ("reports", "Report"), ("schemes", "Scheme")]


def listed(module, name):
    return getattr(importlib.import_module("meanways." + module), name)


def parameters(work):
    return list(inspect.signature(work).parameters)


class Names(unittest.TestCase):

    def test_the_package_itself_defines_nothing(self):
        with open(importlib.import_module("meanways").__file__, encoding="utf-8") as file:
            self.assertEqual(file.read(), "")

    def test_each_is_defined_in_its_file(self):
        for module, names in LISTED.items():
            for name in names:
                self.assertEqual(listed(module, name).__module__, "meanways." + module, name)
                self.assertEqual(listed(module, name).__name__, name)

    def test_parameters(self):
        for module, names in LISTED.items():
            for name, wanted in names.items():
                if wanted is not None:
                    self.assertEqual(parameters(listed(module, name)), wanted, name)

    def test_methods_stand_in_the_class_itself(self):
        for (module, name), methods in METHODS.items():
            body = vars(listed(module, name))
            for method, wanted in methods.items():
                self.assertEqual(parameters(body[method])[1:], wanted, method)

    def test_properties(self):
        for (module, name), properties in PROPERTIES.items():
            body = vars(listed(module, name))
            for one in properties:
                self.assertIsInstance(body[one], property, one)

    def test_equality_stands_in_the_class_itself(self):
        for module, name in COMPARED:
            self.assertIn("__eq__", vars(listed(module, name)), name)

    def test_none_takes_anything_else_by_default(self):
        for module, names in LISTED.items():
            for name, wanted in names.items():
                if wanted is not None:
                    defaults = [one for one in inspect.signature(listed(module, name)).parameters.values()
                                if one.default is not inspect.Parameter.empty]
                    self.assertEqual([one.name for one in defaults],
                                     {"fraction": ["bottom"], "Scheme": ["dependences"]}.get(name, []), name)

    def test_defaults(self):
        self.assertEqual(inspect.signature(listed("exact", "fraction")).parameters["bottom"].default, 1)
        self.assertEqual(inspect.signature(listed("schemes", "Scheme")).parameters["dependences"].default, ())


if __name__ == "__main__":
    unittest.main()
