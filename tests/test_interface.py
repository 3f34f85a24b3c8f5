"""Everything that the interface lists stands in its own file, under its names."""

import importlib
import inspect
import unittest

FUNCTIONS = {
    "rules": {"plain": "", "keeps_order": "rule"},
    "purses": {"behind": "rule purse", "taken": "rule purse"},
    "curves": {
        "held": "purse part whole", "is_as_even": "first second", "order": "first second", "crossing": "first second",
        "unevenness": "purse", "gifts": "first second",
    },
    "evening": {
        "evens_more": "one other", "breaking": "one other", "windows": "one other", "contrary": "one other",
        "least_lump": "one other",
    },
    "views": {"views": "one other", "evens_differences": "one other"},
    "leaving": {"leaves_more": "one other", "above": "one other"},
    "mending": {"mending": "one changes other"},
    "checker": {"accepts": "claim certificate"},
    "certificates": {
        "certify_evening": "one other", "certify_order": "first second", "certify_gifts": "first second",
    },
}
# Functions for which there is no other rule to be left out.
NEVER_NONE = ("leaves_more", "above")
CLASSES = {
    "rules": {"Rule": {"__init__": "self bands", "read": "text", "left": "self income", "bands": None}},
    "purses": {"Purse": {"__init__": "self kinds", "read": "text", "kinds": None, "people": None, "total": None}},
    "drafts": {"Draft": {
        "__init__": "self rule", "turn": "self index value step", "cut": "self start", "merge": "self index",
        "undo": "self", "rule": None, "changes": None, "evens": "self", "trial": "self", "tried": "self action",
    }},
    "books": {"Book": {
        "__init__": "self", "wish": "self wish", "lift": "self index", "undo": "self", "names": None, "wishes": None,
        "changes": None, "trial": "self", "tried": "self action",
    }},
}
# What operators and builtins need of each class.
ALIKE = {
    "Rule": ("__len__", "__str__", "__eq__"), "Purse": ("__len__", "__str__", "__eq__"), "Draft": ("__eq__",),
    "Book": ("__setitem__", "__getitem__", "__contains__", "__len__", "__bool__", "__eq__"),
}


def module(name):
    return importlib.import_module(f"evenedshares.{name}")


class Interface(unittest.TestCase):
    def test_functions_and_their_parameters(self):
        for name, functions in FUNCTIONS.items():
            for function, parameters in functions.items():
                with self.subTest(module=name, function=function):
                    found = getattr(module(name), function)
                    self.assertEqual(found.__module__, f"evenedshares.{name}")
                    signature = inspect.signature(found).parameters
                    self.assertEqual(list(signature), parameters.split())
                    if "other" in signature:
                        default = inspect.Parameter.empty if function in NEVER_NONE else None
                        self.assertIs(signature["other"].default, default)

    def test_classes_and_what_they_define(self):
        for name, classes in CLASSES.items():
            for title, methods in classes.items():
                found = getattr(module(name), title)
                self.assertEqual(found.__module__, f"evenedshares.{name}")
                for method in ALIKE[title]:
                    self.assertIn(method, vars(found))
                for method, parameters in methods.items():
                    with self.subTest(title=title, method=method):
                        self.assertIn(method, vars(found))
                        if parameters is None:
                            self.assertIsInstance(vars(found)[method], property)
                        else:
                            signature = inspect.signature(getattr(found, method))
                            self.assertEqual(list(signature.parameters), parameters.split())


if __name__ == "__main__":
    unittest.main()
