import importlib
import inspect
import unittest

from tests.test_errors import ATTRIBUTES

ERRORS = ["WorksError", "NothingDone", *ATTRIBUTES]

# Of each class: what its body defines, and which of this are properties.
CLASSES = {
    "watchedworks.hands": {"Hand": (["__init__", "__eq__"], ["start", "steps", "words"])},
    "watchedworks.works": {"Works": (
        ["__init__", "__eq__", "__add__", "standings", "kept", "moves", "kept_moves", "is_barred", "is_secret",
         "fault_of", "renamed"],
        ["hands", "words", "faults", "secrets", "diligent"],
    )},
}


class Interface(unittest.TestCase):
    def test_each_error_is_defined_in_its_file(self):
        module = importlib.import_module("watchedworks.errors")
        for name in ERRORS:
            self.assertEqual(getattr(module, name).__module__, "watchedworks.errors")

    def test_each_class_is_defined_in_its_file_with_its_methods(self):
        for place, classes in CLASSES.items():
            for name, (methods, properties) in classes.items():
                found = getattr(importlib.import_module(place), name)
                self.assertTrue(inspect.isclass(found))
                self.assertEqual(found.__module__, place)
                for method in methods:
                    self.assertTrue(inspect.isfunction(vars(found)[method]), method)
                for attribute in properties:
                    self.assertIsInstance(vars(found)[attribute], property)

    def test_arguments(self):
        expected = {
            ("watchedworks.hands", "Hand"): "(start, steps)",
            ("watchedworks.works", "Works"): "(hands, *, bars=(), faults=None, secrets=None, diligent=())",
        }
        for (place, name), arguments in expected.items():
            found = getattr(importlib.import_module(place), name)
            self.assertEqual(str(inspect.signature(found)), arguments)

    def test_arguments_of_methods(self):
        expected = {
            "moves": "(self, standing)", "kept_moves": "(self, standing)", "is_barred": "(self, standing)",
            "is_secret": "(self, name, standing)", "fault_of": "(self, word)", "renamed": "(self, names)",
            "standings": "(self)", "kept": "(self)",
        }
        works = importlib.import_module("watchedworks.works").Works
        for name, arguments in expected.items():
            self.assertEqual(str(inspect.signature(vars(works)[name])), arguments)


if __name__ == "__main__":
    unittest.main()
