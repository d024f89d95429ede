"""Arguments and results of the functions of likeness, compacting, orders, changes and texts: points [2] and [3]."""

import copy
import unittest

from support import Refusing, nested, shares, wide
from twopatches.changes import change, is_result, lost, shared, undoing
from twopatches.compacting import compact, core, latest, needless, writers
from twopatches.effects import Effect
from twopatches.likeness import is_parting, parting, same
from twopatches.orders import commute, outcomes, route
from twopatches.texts import document_text

# Arguments with which each function has something to do.
ROW = [{"a": [1], "b": {"c": 5}}, {"d": {}}, {"b": {"c": {"d": [2, None]}}}, {"d": {}}, {"e": None}]
OTHER = [{"a": [1], "b": None}, {"b": {"c": {"d": [2]}}}]
DOCUMENT = {"a": [3], "b": {"f": [4], "c": {"g": None}}, "e": 1}
PATCH = {"b": {"c": None}, "a": [5]}
AFTER = {"a": [1], "b": {"f": [4], "c": {"d": [2, None]}}, "d": {}}
MEETING = [{"b": {"h": 1}}, {"d": None}, {"d": {}, "i": [6]}]

# Each function with its parameters, and an argument for each.
CALLS = (
    (same, {"row": ROW, "other": OTHER}),
    (parting, {"row": ROW, "other": OTHER}),
    (is_parting, {"row": ROW, "other": OTHER, "document": DOCUMENT}),
    (compact, {"row": ROW}),
    (latest, {"row": ROW}),
    (needless, {"row": ROW}),
    (core, {"row": ROW}),
    (writers, {"row": ROW}),
    (commute, {"one": PATCH, "other": DOCUMENT}),
    (outcomes, {"patches": ROW}),
    (route, {"patches": ROW, "before": DOCUMENT, "after": AFTER}),
    (change, {"before": DOCUMENT, "after": AFTER}),
    (undoing, {"document": AFTER, "row": ROW}),
    (is_result, {"row": ROW, "document": AFTER}),
    (lost, {"row": ROW}),
    (shared, {"row": ROW, "other": MEETING}),
    (document_text, {"document": DOCUMENT}),
)

# Wrong documents and wrong rows: the field of the error that each raises, a path or a word.
WRONG_DOCUMENTS = (
    (True, ()), (1.5, ()), ((1,), ()), ({1: 2}, ()), ([[1]], ()), (Effect("keep", None, ()), ()),
    ({"b": True, "a": {"c": [1.5]}}, ("a", "c")), ({**wide(300), "z": {"y": (1,)}}, ("z", "y")),
    (nested(9), "depth"), (nested(8, {}), "depth"), ({**wide(300), "z": nested(8)}, "depth"), (wide(201), "parts"))
WRONG_ROWS = tuple(([{}, wrong], field) for wrong, field in WRONG_DOCUMENTS) + (
    ([{"a": 1}, 5, {"b": 1.5}, {"a": 1.5}], ("b",)), ([{}, nested(9), True], "depth"),
    ([wide(201), nested(9)], "parts"), ([nested(9), wide(201)], "depth"),
    ([wide(200), wide(200), True], ()), ([wide(200), wide(200), nested(9)], "depth"),
    ([wide(101), wide(100)], "row"), ([wide(200), None], "row"), ([wide(200), []], "row"), ([wide(200)] * 6, "row"),
    ((wide(150), wide(150)), "row"))


def is_row(name, call):
    return name in ("row", "patches") or name == "other" and call is not commute


def wrong_arguments(name, call):
    return WRONG_ROWS if is_row(name, call) else WRONG_DOCUMENTS


def turned(call, given):
    """Arguments in which lists of patches are tuples."""
    return {name: tuple(value) if is_row(name, call) else value for name, value in given.items()}


class Wrong(Refusing):

    def raises(self, field, call, given):
        (self.large if isinstance(field, str) else self.refused)(field, lambda: call(**given))

    def test_each_argument(self):
        for call, given in CALLS:
            for name in given:
                for wrong, field in wrong_arguments(name, call):
                    with self.subTest(call=call.__name__, name=name, field=field):
                        self.raises(field, call, {**given, name: wrong})

    def test_in_the_order_of_the_parameters(self):
        for call, given in CALLS:
            names = list(given)
            for place, name in enumerate(names):
                later = names[place + 1:]
                for wrong, field in wrong_arguments(name, call):
                    for other in later:
                        for other_wrong, _ in wrong_arguments(other, call):
                            self.raises(field, call, {**given, name: wrong, other: other_wrong})

    def test_rows_with_too_many_patches(self):
        for call, given in CALLS:
            for name in given:
                if is_row(name, call) and name != "patches":
                    for row in ([{}] * 201, [None] * 201, list(range(201)), [{"a": 1}] * 101, ([],) * 201):
                        self.raises("row", call, {**given, name: row})

    def test_a_wrong_argument_in_whose_place_nothing_would_be_done(self):
        self.refused((), is_parting, [5], [5], True)
        self.refused((), route, [], {}, True)
        self.large("parts", route, [], wide(201), wide(201))
        self.refused(("a",), same, [], [{"a": True}])
        self.refused(("a",), parting, [], [{"a": True}])
        self.refused(("a",), latest, [{"a": True}])
        self.refused((), commute, True, True)
        self.refused((), outcomes, [True])

    def test_arguments_at_the_limits(self):
        for call, given in CALLS:
            # No change can make a member None, so the inmost value is 0.
            for name in given:
                for good in (nested(8, 0), nested(7, {}), wide(200), nested(7, wide(193))):
                    call(**{**given, name: [good] if is_row(name, call) else good})


class Given(unittest.TestCase):

    def test_by_name_and_by_position(self):
        for call, given in CALLS:
            with self.subTest(call=call.__name__):
                result = call(*given.values())
                self.assertEqual(call(**given), result)
                self.assertEqual(call(**{name: given[name] for name in reversed(given)}), result)

    def test_lists_and_tuples(self):
        for call, given in CALLS:
            with self.subTest(call=call.__name__):
                result = call(**given)
                self.assertEqual(call(**turned(call, given)), result)
                self.assertIs(call(**turned(call, given)).__class__, result.__class__)
                for name in given:
                    self.assertEqual(call(**{**given, name: turned(call, given)[name]}), result)

    def test_empty_tuples(self):
        self.assertIs(same((), []), True)
        self.assertIsNone(parting((), ()))
        self.assertEqual([compact(()), latest(()), needless(()), core(()), writers(())], [[]] * 5)
        self.assertEqual(outcomes(()), outcomes([]))
        self.assertEqual(route((), 5, 5), ())

    def test_they_stay_as_they_are(self):
        for call, given in CALLS:
            for passed in (copy.deepcopy(given), turned(call, copy.deepcopy(given))):
                before = repr(passed)
                call(**passed)
                self.assertEqual(repr(passed), before, call)

    def test_the_same_result_each_time(self):
        for call, given in CALLS:
            result = call(**given)
            for _ in range(3):
                self.assertEqual(call(**copy.deepcopy(given)), result)

    def test_the_order_of_the_keys_does_not_matter(self):
        def other_order(value):
            if isinstance(value, dict):
                return {key: other_order(value[key]) for key in reversed(value)}
            return [other_order(one) for one in value] if isinstance(value, list) else value

        for call, given in CALLS:
            other = {name: [other_order(one) for one in value] if is_row(name, call) else other_order(value)
                     for name, value in given.items()}
            self.assertEqual(call(**other), call(**given))


class Results(unittest.TestCase):

    def test_kinds(self):
        for call, given in CALLS:
            kind = call(**given).__class__
            if call in (same, is_parting, commute, is_result):
                self.assertIs(kind, bool)
            elif call in (route, lost):
                self.assertIs(kind, tuple)
            elif call in (change, undoing, shared):
                self.assertIs(kind, dict)
            elif call is document_text:
                self.assertIs(kind, str)
            elif call is not parting:
                self.assertIs(kind, list)

    def test_each_list_is_new(self):
        for call, given in CALLS:
            one, other = call(**given), call(**given)
            if isinstance(one, list):
                self.assertIsNot(one, other)
                self.assertTrue(one)
                one.clear()
                self.assertEqual(call(**given), other)

    def test_patches_are_new(self):
        items = [1]
        patch = {"a": items, "b": {"c": items, "d": {"e": [None]}}}
        rows = (ROW, OTHER, [patch, {"f": items}], [items], [None, patch, {"b": {"g": items}}], [patch, 5, patch],
                [{"a": 1}, {"a": patch}], [{}, {"b": {}}])
        for call in (compact, latest, core):
            for row in rows:
                before = copy.deepcopy(row)
                one, other = call(row), call(row)
                # As members of objects, whose lists and dictionaries shares looks at.
                named = [{str(place): patch for place, patch in enumerate(result)} for result in (one, other)]
                self.assertFalse(shares(named[0], list(row)), (call, row))
                self.assertFalse(shares(named[0], [named[1]]), (call, row))
                self.assertEqual(row, before)

    def test_a_row_that_needs_nothing_is_new(self):
        row = [{"a": [1]}, {"b": {"c": [2]}}]
        for call in (latest, core):
            result = call(row)
            self.assertEqual(result, row)
            self.assertIsNot(result, row)
            result[0]["a"].append(9)
            result[1]["b"]["c"].append(9)
            result.append(9)
            self.assertEqual(row, [{"a": [1]}, {"b": {"c": [2]}}])

    def test_later_changes_have_no_effect(self):
        for call, given in CALLS:
            passed = copy.deepcopy(given)
            result = call(**passed)
            expected = call(**given)
            for value in passed.values():
                for patch in value if isinstance(value, list) else [value]:
                    for member in patch.values():
                        if isinstance(member, dict):
                            member["later"] = 9
                        elif isinstance(member, list):
                            member.append(9)
                    patch["later"] = 9
                if isinstance(value, list):
                    value.append({"later": 9})
            self.assertEqual(result, expected, call)


if __name__ == "__main__":
    unittest.main()
