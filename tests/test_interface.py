"""The interface of DOC.md: where its names are defined, and with which parameters."""

import inspect
import unittest

from twopatches import changes, compacting, desk, documents, effects, errors, likeness, logs, orders, texts

FUNCTIONS = (
    (documents, "check", ["value"]),
    (documents, "applied", ["document", "patch"]),
    (documents, "run", ["document", "row"]),
    (effects, "effect", ["row"]),
    (likeness, "same", ["row", "other"]),
    (likeness, "parting", ["row", "other"]),
    (likeness, "is_parting", ["row", "other", "document"]),
    (compacting, "compact", ["row"]),
    (compacting, "latest", ["row"]),
    (compacting, "needless", ["row"]),
    (compacting, "core", ["row"]),
    (compacting, "writers", ["row"]),
    (orders, "commute", ["one", "other"]),
    (orders, "outcomes", ["patches"]),
    (orders, "route", ["patches", "before", "after"]),
    (changes, "change", ["before", "after"]),
    (changes, "undoing", ["document", "row"]),
    (changes, "is_result", ["row", "document"]),
    (changes, "lost", ["row"]),
    (changes, "shared", ["row", "other"]),
    (texts, "document_text", ["document"]),
    (texts, "read_document", ["text"]),
    (texts, "effect_text", ["one"]),
)

CLASSES = (
    (errors, "PatchError", None),
    (errors, "NoDocument", ["path"]),
    (errors, "Large", ["what"]),
    (errors, "BadCount", ["what", "count"]),
    (errors, "NoChange", ["path"]),
    (errors, "NoTime", ["time"]),
    (errors, "NoBack", None),
    (errors, "BadText", ["place"]),
    (effects, "Effect", ["kind", "atom", "members"]),
    (changes, "Clash", ["path"]),
    (logs, "Log", []),
    (desk, "Desk", []),
)

METHODS = (
    (logs.Log, "begin", ["self", "document"]),
    (logs.Log, "add", ["self", "patch"]),
    (logs.Log, "row", ["self"]),
    (logs.Log, "first", ["self"]),
    (logs.Log, "at", ["self", "time"]),
    (logs.Log, "now", ["self"]),
    (logs.Log, "squeeze", ["self", "begin", "end"]),
    (logs.Log, "many", ["self"]),
    (logs.Log, "back", ["self"]),
    (desk.Desk, "tell", ["self", "row"]),
)


class Interface(unittest.TestCase):

    def test_functions(self):
        for module, name, parameters in FUNCTIONS:
            with self.subTest(name=name):
                function = getattr(module, name)
                self.assertTrue(inspect.isfunction(function))
                self.assertEqual(function.__module__, module.__name__)
                self.assertEqual(list(inspect.signature(function).parameters), parameters)

    def test_classes(self):
        for module, name, parameters in CLASSES:
            with self.subTest(name=name):
                shown = getattr(module, name)
                self.assertTrue(inspect.isclass(shown))
                self.assertEqual(shown.__module__, module.__name__)
                if parameters is not None:
                    self.assertEqual(list(inspect.signature(shown).parameters), parameters)

    def test_parameters_have_no_stars_and_no_defaults(self):
        functions = [getattr(module, name) for module, name, _ in FUNCTIONS]
        for function in functions + [vars(shown)[name] for shown, name, _ in METHODS]:
            for parameter in inspect.signature(function).parameters.values():
                self.assertEqual(parameter.kind, inspect.Parameter.POSITIONAL_OR_KEYWORD)
                self.assertIs(parameter.default, inspect.Parameter.empty)

    def test_methods(self):
        for shown, name, parameters in METHODS:
            with self.subTest(name=name):
                self.assertTrue(inspect.isfunction(vars(shown)[name]))
                self.assertEqual(list(inspect.signature(vars(shown)[name]).parameters), parameters)

    def test_methods_stand_in_the_class_itself(self):
        self.assertIn("__eq__", vars(changes.Clash))
        for name in ("__init__", "__eq__", "__add__", "__call__"):
            self.assertIn(name, vars(effects.Effect))
        self.assertEqual(list(inspect.signature(effects.effect([])).parameters), ["document"])


if __name__ == "__main__":
    unittest.main()
