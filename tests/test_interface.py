"""That what the interface lists is there: in its file, with its names and arguments."""

import importlib
import inspect
import unittest

FUNCTIONS = {
    "basics": {"is_integer": "value", "is_count": "value", "is_text": "value", "is_name": "value",
               "is_fraction": "value"},
    "pictures": {"least_line": "picture", "is_line": "picture value"},
    "ahead": {"is_ahead": "picture first second", "chain": "picture first second",
              "is_chain": "picture first second value", "clock": "picture event",
              "line_against": "picture first second", "exchanges": "picture line", "way": "picture one other",
              "is_way": "picture one other value"},
    "cuts": {"is_cut": "picture value", "least_cut": "picture events", "greatest_cut": "picture places",
             "pulls": "picture places", "are_pulls": "picture places value", "line_through": "picture cut",
             "on_the_way": "picture cut", "noted": "picture line places", "all_cuts": "picture"},
}
CLASSES = {
    ("pictures", "Picture"): {
        "__init__": "rows", "rows": "", "events": "", "letters": "", "said": "letter", "heard": "letter",
        "beginning": "cut", "__len__": "", "__contains__": None, "__getitem__": None, "__eq__": None, "__repr__": ""},
}
PROPERTIES = {("pictures", "Picture"): ["houses"]}
DEFAULTS = {}


def names_of(function):
    return list(inspect.signature(function).parameters)


class TestInterface(unittest.TestCase):
    def test_functions(self):
        for file, functions in FUNCTIONS.items():
            module = importlib.import_module("oneshelf." + file)
            for name, names in functions.items():
                function = getattr(module, name)
                self.assertTrue(inspect.isfunction(function), name)
                self.assertEqual(function.__module__, "oneshelf." + file)
                self.assertEqual(names_of(function), names.split(), name)

    def test_classes(self):
        for (file, name), methods in CLASSES.items():
            kind = getattr(importlib.import_module("oneshelf." + file), name)
            self.assertTrue(inspect.isclass(kind))
            self.assertEqual(kind.__module__, "oneshelf." + file)
            for method, names in methods.items():
                self.assertIn(method, kind.__dict__, name)
                if names is not None:
                    self.assertEqual(names_of(kind.__dict__[method])[1:], names.split(), method)
            for told in PROPERTIES[file, name]:
                self.assertIsInstance(kind.__dict__[told], property)

    def test_defaults(self):
        for (file, name), wanted in DEFAULTS.items():
            kind = getattr(importlib.import_module("oneshelf." + file), name)
            told = inspect.signature(kind).parameters
            self.assertEqual({key: told[key].default for key in wanted}, wanted)


if __name__ == "__main__":
    unittest.main()
