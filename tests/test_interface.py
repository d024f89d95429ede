"""The interface of DOC.md: where its names are defined, and with which parameters."""

import inspect
import unittest

from twopatches import compacting, documents, effects, errors, likeness, orders

FUNCTIONS = (
    (documents, "check", ["value"]),
    (documents, "applied", ["document", "patch"]),
    (documents, "run", ["document", "row"]),
    (effects, "effect", ["row"]),
    (likeness, "same", ["row", "other"]),
    (likeness, "parting", ["row", "other"]),
    (likeness, "is_parting", ["row", "other", "document"]),
    (compacting, "compact", ["row"]),
    (compacting, "latest", ["row"]),
    (compacting, "needless", ["row"]),
    (compacting, "core", ["row"]),
    (compacting, "writers", ["row"]),
    (orders, "commute", ["one", "other"]),
    (orders, "outcomes", ["patches"]),
    (orders, "route", ["patches", "before", "after"]),
)

CLASSES = (
    (errors, "PatchError", None),
    (errors, "NoDocument", ["path"]),
    (errors, "Large", ["what"]),
    (errors, "BadCount", ["what", "count"]),
    (errors, "NoChange", ["path"]),
    (errors, "NoTime", ["time"]),
    (errors, "NoBack", None),
    (errors, "BadText", ["place"]),
    (effects, "Effect", ["kind", "atom", "members"]),
)


class Interface(unittest.TestCase):

    def test_functions(self):
        for module, name, parameters in FUNCTIONS:
            with self.subTest(name=name):
                function = getattr(module, name)
                self.assertTrue(inspect.isfunction(function))
                self.assertEqual(function.__module__, module.__name__)
                self.assertEqual(list(inspect.signature(function).parameters), parameters)

    def test_classes(self):
        for module, name, parameters in CLASSES:
            with self.subTest(name=name):
                shown = getattr(module, name)
                self.assertTrue(inspect.isclass(shown))
                self.assertEqual(shown.__module__, module.__name__)
                if parameters is not None:
                    self.assertEqual(list(inspect.signature(shown).parameters), parameters)

    def test_methods_stand_in_the_class_itself(self):
        for name in ("__init__", "__eq__", "__add__", "__call__"):
            self.assertIn(name, vars(effects.Effect))
        self.assertEqual(list(inspect.signature(effects.effect([])).parameters), ["document"])


if __name__ == "__main__":
    unittest.main()
