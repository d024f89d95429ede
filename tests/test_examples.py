"""The examples of DOC.md for all modules that the package has."""

import unittest

from twopatches.compacting import compact, core, latest, needless, writers
from twopatches.documents import applied, check, run
from twopatches.effects import effect
from twopatches.errors import NoDocument
from twopatches.likeness import is_parting, parting, same
from twopatches.orders import commute, outcomes, route


class Examples(unittest.TestCase):

    def test_check(self):
        with self.assertRaises(NoDocument) as raised:
            check({"a": [1, {"b": 2}]})
        self.assertEqual(raised.exception.path, ("a",))

    def test_applied(self):
        self.assertEqual(applied({"a": 1, "b": 2}, {"a": None, "c": {"d": None}}), {"b": 2, "c": {}})
        self.assertEqual(applied({"a": None}, {"a": {}}), {"a": {}})

    def test_run(self):
        self.assertEqual(run({"a": {"c": 2}}, [{"a": None}, {"a": {"b": 1}}]), {"a": {"b": 1}})

    def test_effect_of_a_patch(self):
        one = effect([{"a": None}])
        key, member = one.members[0]
        self.assertEqual((one.kind, key, member.kind), ("merge", "a", "drop"))

    def test_effect_with_a_build(self):
        one = effect([{"a": None}, {"a": {"b": [1]}}])
        built = one.members[0][1]
        self.assertEqual(
            (built.kind, built.members[0][0], built.members[0][1].kind, built.members[0][1].atom),
            ("build", "b", "set", (1,)))

    def test_sum(self):
        one = effect([{"a": 1}]) + effect([{"a": 2}])
        self.assertIs(one == effect([{"a": 2}]), True)

    def test_call(self):
        one = effect([{"a": {}}])
        self.assertEqual(one({"a": 5, "b": None}), {"a": {}, "b": None})

    def test_same(self):
        self.assertIs(same([{"a": 1}, {"b": 2}], [{"b": 2}, {"a": 1}]), True)
        self.assertIs(same([{}], []), False)

    def test_is_parting(self):
        self.assertIs(is_parting([{"a": {"b": 1}}], [{"a": None}, {"a": {"b": 1}}], {"a": {"c": 2}}), True)

    def test_parting(self):
        self.assertIsNone(parting([{"a": 1}, {"a": 2}], [{"a": 2}]))

    def test_compact(self):
        self.assertEqual(
            compact([{"a": None, "b": 1}, {"a": {"c": 3}}, {"d": None}]),
            [{"a": None}, {"a": {"c": 3}, "b": 1, "d": None}])
        self.assertEqual(compact([{"a": 1}, {"a": 2}, {"b": {}}]), [{"a": 2, "b": {}}])
        self.assertEqual(compact([5, {"a": 1}]), [None, {"a": 1}])

    def test_latest(self):
        self.assertEqual(latest([{"a": 1}, {"a": 2}, {"a": 1}]), [{"a": 2}, {"a": 1}])

    def test_needless(self):
        self.assertEqual(needless([{"a": 1}, {"a": 2}, {"a": 1}]), [0, 1])

    def test_core(self):
        self.assertEqual(core([{"a": 1}, {"a": 2}, {"a": 1}]), [{"a": 1}])

    def test_writers(self):
        self.assertEqual(
            writers([{"a": 1, "b": 1}, {"b": None}, {"c": {"d": 2}}]),
            [(("a",), 0), (("b",), 1), (("c", "d"), 2)])

    def test_commute(self):
        self.assertIs(commute({"a": 1}, {"b": None}), True)
        self.assertIs(commute({"a": 1}, {"a": {"b": 2}}), False)

    def test_outcomes(self):
        self.assertEqual(
            [order for order, one in outcomes([{"a": 1}, {"b": 2}, {"a": 3}])], [(0, 1, 2), (1, 2, 0)])

    def test_route(self):
        patches = [{"a": None}, {"a": {"b": 1}}]
        self.assertEqual(route(patches, {"a": {"c": 2}}, {"a": {"b": 1}}), (0, 1))
        self.assertIsNone(route(patches, {}, {"a": 1}))


if __name__ == "__main__":
    unittest.main()
