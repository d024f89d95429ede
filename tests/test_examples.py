"""The examples of DOC.md."""

import unittest

from twopatches.changes import Clash, change, is_result, shared, undoing
from twopatches.compacting import compact, core, latest, needless, writers
from twopatches.desk import Desk
from twopatches.documents import applied, check, run
from twopatches.effects import effect
from twopatches.errors import BadText, NoChange, NoDocument, NoTime
from twopatches.likeness import is_parting, parting, same
from twopatches.logs import Log
from twopatches.orders import commute, outcomes, route
from twopatches.texts import document_text, effect_text, read_document


class Examples(unittest.TestCase):

    def test_check(self):
        with self.assertRaises(NoDocument) as raised:
            check({"a": [1, {"b": 2}]})
        self.assertEqual(raised.exception.path, ("a",))

    def test_applied(self):
        self.assertEqual(applied({"a": 1, "b": 2}, {"a": None, "c": {"d": None}}), {"b": 2, "c": {}})
        self.assertEqual(applied({"a": None}, {"a": {}}), {"a": {}})

    def test_run(self):
        self.assertEqual(run({"a": {"c": 2}}, [{"a": None}, {"a": {"b": 1}}]), {"a": {"b": 1}})

    def test_effect_of_a_patch(self):
        one = effect([{"a": None}])
        key, member = one.members[0]
        self.assertEqual((one.kind, key, member.kind), ("merge", "a", "drop"))

    def test_effect_with_a_build(self):
        one = effect([{"a": None}, {"a": {"b": [1]}}])
        built = one.members[0][1]
        self.assertEqual(
            (built.kind, built.members[0][0], built.members[0][1].kind, built.members[0][1].atom),
            ("build", "b", "set", (1,)))

    def test_sum(self):
        one = effect([{"a": 1}]) + effect([{"a": 2}])
        self.assertIs(one == effect([{"a": 2}]), True)

    def test_call(self):
        one = effect([{"a": {}}])
        self.assertEqual(one({"a": 5, "b": None}), {"a": {}, "b": None})

    def test_same(self):
        self.assertIs(same([{"a": 1}, {"b": 2}], [{"b": 2}, {"a": 1}]), True)
        self.assertIs(same([{}], []), False)

    def test_is_parting(self):
        self.assertIs(is_parting([{"a": {"b": 1}}], [{"a": None}, {"a": {"b": 1}}], {"a": {"c": 2}}), True)

    def test_parting(self):
        self.assertIsNone(parting([{"a": 1}, {"a": 2}], [{"a": 2}]))

    def test_compact(self):
        self.assertEqual(
            compact([{"a": None, "b": 1}, {"a": {"c": 3}}, {"d": None}]),
            [{"a": None}, {"a": {"c": 3}, "b": 1, "d": None}])
        self.assertEqual(compact([{"a": 1}, {"a": 2}, {"b": {}}]), [{"a": 2, "b": {}}])
        self.assertEqual(compact([5, {"a": 1}]), [None, {"a": 1}])

    def test_latest(self):
        self.assertEqual(latest([{"a": 1}, {"a": 2}, {"a": 1}]), [{"a": 2}, {"a": 1}])

    def test_needless(self):
        self.assertEqual(needless([{"a": 1}, {"a": 2}, {"a": 1}]), [0, 1])

    def test_core(self):
        self.assertEqual(core([{"a": 1}, {"a": 2}, {"a": 1}]), [{"a": 1}])

    def test_writers(self):
        self.assertEqual(
            writers([{"a": 1, "b": 1}, {"b": None}, {"c": {"d": 2}}]),
            [(("a",), 0), (("b",), 1), (("c", "d"), 2)])

    def test_commute(self):
        self.assertIs(commute({"a": 1}, {"b": None}), True)
        self.assertIs(commute({"a": 1}, {"a": {"b": 2}}), False)

    def test_outcomes(self):
        self.assertEqual(
            [order for order, one in outcomes([{"a": 1}, {"b": 2}, {"a": 3}])], [(0, 1, 2), (1, 2, 0)])

    def test_route(self):
        patches = [{"a": None}, {"a": {"b": 1}}]
        self.assertEqual(route(patches, {"a": {"c": 2}}, {"a": {"b": 1}}), (0, 1))
        self.assertIsNone(route(patches, {}, {"a": 1}))

    def test_change(self):
        self.assertEqual(
            change({"a": {"b": 1, "c": 2}, "d": 3}, {"a": {"b": 1, "c": 4}, "e": {}}),
            {"a": {"c": 4}, "d": None, "e": {}})

    def test_no_change(self):
        with self.assertRaises(NoChange) as raised:
            change({"a": 1}, {"a": {"b": None}})
        self.assertEqual(raised.exception.path, ("a", "b"))

    def test_undoing(self):
        self.assertEqual(undoing({"a": 1, "b": 2}, [{"a": None}, {"c": 3}]), {"a": 1, "c": None})

    def test_is_result(self):
        self.assertIs(is_result([{"a": 1}], {"a": 1, "b": 2}), True)
        self.assertIs(is_result([{"a": 1}], {"a": 2}), False)

    def test_shared(self):
        self.assertIs(shared([{"a": 1}], [{"a": {"b": 2}}]) == Clash(("a",)), True)

    def test_log(self):
        log = Log()
        log.add({"a": 1})
        log.add({"a": {"b": 2}})
        log.squeeze(0, 2)
        self.assertEqual((log.row(), log.now(), log.many()), ([{"a": None}, {"a": {"b": 2}}], {"a": {"b": 2}}, 3))

    def test_no_time(self):
        with self.assertRaises(NoTime) as raised:
            Log().at(1)
        self.assertEqual(raised.exception.time, 1)

    def test_document_text(self):
        self.assertEqual(document_text({"b": [1, "x"], "a": None}), '{"a":null,"b":[1,"x"]}')

    def test_read_document(self):
        with self.assertRaises(BadText) as raised:
            read_document('{"a": 01}')
        self.assertEqual(raised.exception.place, 7)

    def test_effect_text(self):
        self.assertEqual(effect_text(effect([{"a": None}, {"a": {"b": 1}}])), 'merge {"a":build {"b":set 1}}')

    def test_desk(self):
        desk = Desk()
        desk.tell('add {"a":1}')
        self.assertEqual(desk.tell('now'), ['{"a":1}'])

    def test_desk_with_nothing_to_undo(self):
        desk = Desk()
        self.assertEqual(desk.tell('back'), ['refused noback'])


if __name__ == "__main__":
    unittest.main()
