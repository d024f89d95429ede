"""The examples of DOC.md that need no other module than errors, documents and effects."""

import unittest

from twopatches.documents import applied, check, run
from twopatches.effects import effect
from twopatches.errors import NoDocument


class Examples(unittest.TestCase):

    def test_check(self):
        with self.assertRaises(NoDocument) as raised:
            check({"a": [1, {"b": 2}]})
        self.assertEqual(raised.exception.path, ("a",))

    def test_applied(self):
        self.assertEqual(applied({"a": 1, "b": 2}, {"a": None, "c": {"d": None}}), {"b": 2, "c": {}})
        self.assertEqual(applied({"a": None}, {"a": {}}), {"a": {}})

    def test_run(self):
        self.assertEqual(run({"a": {"c": 2}}, [{"a": None}, {"a": {"b": 1}}]), {"a": {"b": 1}})

    def test_effect_of_a_patch(self):
        one = effect([{"a": None}])
        key, member = one.members[0]
        self.assertEqual((one.kind, key, member.kind), ("merge", "a", "drop"))

    def test_effect_with_a_build(self):
        one = effect([{"a": None}, {"a": {"b": [1]}}])
        built = one.members[0][1]
        self.assertEqual(
            (built.kind, built.members[0][0], built.members[0][1].kind, built.members[0][1].atom),
            ("build", "b", "set", (1,)))

    def test_sum(self):
        one = effect([{"a": 1}]) + effect([{"a": 2}])
        self.assertIs(one == effect([{"a": 2}]), True)

    def test_call(self):
        one = effect([{"a": {}}])
        self.assertEqual(one({"a": 5, "b": None}), {"a": {}, "b": None})


if __name__ == "__main__":
    unittest.main()
