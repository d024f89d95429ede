"""Changes between documents, and what rows can lead to: points [11] and [12]."""

import copy
import itertools
import random
import time
import unittest

from support import (
    FEW, MANY, Refusing, many_parts, merge_patch, merge_row, nested, objects_over, random_document, random_rows, shares,
    wide)
from twopatches.changes import Clash, change, is_result, lost, shared, undoing
from twopatches.documents import check
from twopatches.effects import Effect, effect
from twopatches.errors import NoChange

# Rows that meet each other in pairs, and documents among which every one of them has some results.
ROWS = [[]] + [[one] for one in FEW] + [[one, other] for one in FEW for other in FEW] + [
    [{"a": {"b": 1}}, {"a": {"c": 2}}], [{"a": {"b": {}}}], [5, {"b": 2}], [5, {"a": {"b": 1}, "b": 2}],
    [{"a": None}, {"a": {"b": 1, "c": 3}}], [[1]], [{"a": [1]}], [{"a": [1, None]}], [{"a": 1, "b": 2}]]
INNER = [None, 1, [1], [1, None]] + objects_over("bc", [None, 1, 2, {}])
DOCUMENTS = INNER + objects_over("ab", INNER + [2, 3, {"a": 2}, {"b": 1, "c": 3}])


def repr_of(document):
    """A string that is the same for equal documents."""
    if isinstance(document, dict):
        return "{" + ",".join(repr(key) + repr_of(document[key]) for key in sorted(document)) + "}"
    return repr(document)


def random_documents(many):
    """So many documents of at most 4 levels, the same ones each time."""
    chance = random.Random(12)
    return [random_document(chance, 4) for _ in range(many)]


class Changing(Refusing):

    def no_change(self, path, call, *given):
        with self.assertRaises(NoChange) as raised:
            call(*given)
        self.assertEqual(raised.exception.path, path)
        self.assertIsInstance(raised.exception.path, tuple)


def none_to_make(before, after):
    """The smallest path of a member None of the one document that the other one does not have, or None."""
    def places(document, path=()):
        if isinstance(document, dict):
            for key, member in document.items():
                yield (*path, key), member
                yield from places(member, (*path, key))

    there = dict(places(before))
    missing = [path for path, member in places(after) if member is None and there.get(path, "no") is not None]
    return min(missing, default=None)


class Change(Changing):

    def test_documents(self):
        for before, after, patch in (
                # Equal documents.
                ({}, {}, {}), ({"a": 1}, {"a": 1}, {}), ({"a": None}, {"a": None}, {}), (5, 5, 5),
                (None, None, None), ([1, None], [1, None], [1, None]), ("", "", ""),
                ({"a": {"b": [1]}, "c": {}}, {"c": {}, "a": {"b": [1]}}, {}),
                # An atom.
                ({}, None, None), ({"a": 1}, 5, 5), (5, None, None), (5, [], []), ([1], [1, 1], [1, 1]), (0, "0", "0"),
                ({"a": None}, [None], [None]),
                # An object of an atom.
                (None, {}, {}), (5, {}, {}), ([], {"a": 1}, {"a": 1}),
                (None, {"a": {"b": [None]}}, {"a": {"b": [None]}}),
                ("a", {"a": {}, "b": {"c": {}}}, {"a": {}, "b": {"c": {}}}),
                # Members that are new, that are not there any more, and that differ.
                ({}, {"a": 1}, {"a": 1}), ({}, {"a": {}}, {"a": {}}), ({"a": 1}, {}, {"a": None}),
                ({"a": None}, {}, {"a": None}), ({"a": {"b": 1}}, {}, {"a": None}), ({"a": 1}, {"a": 2}, {"a": 2}),
                ({"a": None}, {"a": 1}, {"a": 1}), ({"a": 1}, {"a": [1]}, {"a": [1]}),
                ({"a": 1}, {"a": {}}, {"a": {}}), ({"a": {"b": 1}}, {"a": 1}, {"a": 1}),
                ({"a": {"b": 1}}, {"a": {}}, {"a": {"b": None}}), ({"a": None}, {"a": {}}, {"a": {}}),
                ({"a": {}}, {"a": {"b": {}}}, {"a": {"b": {}}}),
                ({"a": {"b": 1, "c": 2}, "d": 3}, {"a": {"b": 1, "c": 4}, "e": {}},
                 {"a": {"c": 4}, "d": None, "e": {}}),
                # A member None that is there already.
                ({"a": None, "b": 1}, {"a": None}, {"b": None}), ({"a": None}, {"a": None, "b": 1}, {"b": 1}),
                ({"a": {"b": None, "c": 1}}, {"a": {"b": None}}, {"a": {"c": None}}),
                ({"": 1}, {"": 1, " ": 2}, {" ": 2}), (nested(8, 1), nested(8, 2), nested(8, 2)),
                (nested(8), nested(7, {}), nested(8)),
                (nested(8), nested(8), {}), (nested(8), {}, {"k": None}), ({}, nested(8, 1), nested(8, 1))):
            with self.subTest(before=before, after=after):
                self.assertEqual(change(before, after), patch)
                self.assertIs(change(before, after).__class__, patch.__class__)
                self.assertEqual(merge_patch(before, patch), after)

    def test_members_that_no_patch_can_make_none(self):
        for before, after, path in (
                ({}, {"a": None}, ("a",)), (None, {"a": None}, ("a",)), ({"a": 1}, {"a": None}, ("a",)),
                ({"a": {}}, {"a": None}, ("a",)), ({"a": {"b": None}}, {"a": None}, ("a",)),
                ({"a": 1}, {"a": {"b": None}}, ("a", "b")), ({}, {"a": {"b": None}}, ("a", "b")),
                ({"a": None}, {"a": {"a": None}}, ("a", "a")), ({"a": [None]}, {"a": None}, ("a",)),
                ({"b": None}, {"a": None}, ("a",)), ({"a": None}, {"a": None, "b": None}, ("b",)),
                # The first one in ascending order of the keys, the inner ones of a key before the next key.
                ({}, {"b": None, "a": None}, ("a",)), ({"a": None}, {"c": None, "b": None, "a": None}, ("b",)),
                ({}, {"b": None, "a": {"z": None, "y": {"x": None}}}, ("a", "y", "x")),
                ({"a": {"y": None}}, {"b": None, "a": {"z": None, "y": None}}, ("a", "z")),
                ({"a": {"y": None}, "b": {}}, {"b": {"c": None}, "a": {"y": None}}, ("b", "c")),
                (5, {"10": {"k": None}, "9": None, "": {"": 1, " ": None}}, ("", " ")),
                ({"a": 1}, {"B": {"a": None}, "a": None}, ("B", "a")),
                ({}, nested(8), ("k",) * 8), (nested(7), nested(8), ("k",) * 8), (nested(8), nested(7), ("k",) * 7)):
            with self.subTest(before=before, after=after):
                self.no_change(path, change, before, after)

    def test_each_pair_of_documents(self):
        documents = MANY + random_documents(60)
        for before in documents:
            for after in documents:
                path = none_to_make(before, after)
                if path is None:
                    self.assertEqual(merge_patch(before, change(before, after)), after)
                else:
                    self.no_change(path, change, before, after)

    def test_no_smaller_patch_does_it(self):
        patches = sorted(DOCUMENTS, key=many_parts)
        for before in FEW + DOCUMENTS[::17]:
            found = {}
            for patch in patches:
                found.setdefault(repr_of(merge_patch(before, patch)), patch)
            for after in DOCUMENTS[::5] + FEW:
                smallest = found.get(repr_of(after))
                if none_to_make(before, after) is not None:
                    self.assertIsNone(smallest)
                elif smallest is not None:
                    self.assertLessEqual(many_parts(change(before, after)), many_parts(smallest))

    def test_rows_do_not_make_what_no_patch_makes(self):
        results = {repr_of(merge_row(before, row)) for row in itertools.product(FEW, repeat=2) for before in [{"a": 1}]}
        for after in DOCUMENTS:
            if none_to_make({"a": 1}, after) is not None:
                self.assertNotIn(repr_of(after), results)

    def test_large_documents(self):
        before, after = wide(200), {"z" + str(place): place for place in range(199)}
        patch = change(before, after)
        self.assertEqual(many_parts(patch), 399)
        self.assertEqual(merge_patch(before, patch), after)

    def test_results_are_new(self):
        items = [1, None]
        inner = {"b": items, "c": {"d": items}}
        for before, after in (
                ({}, {"a": inner}), (5, {"a": inner, "e": items}), ({"a": {}}, {"a": inner}), (5, items),
                (items, items),
                ({"a": inner}, {"a": {"b": items}, "f": inner}), ({"a": inner}, {"a": inner})):
            given = copy.deepcopy([before, after])
            one, other = change(before, after), change(before, after)
            self.assertEqual(one, other)
            self.assertFalse(shares({"one": one}, [before, after, {"other": other}]))
            self.assertEqual([before, after], given)

    def test_order_of_the_errors(self):
        self.refused(("b",), change, {"b": True}, {"a": None})
        self.refused(("b",), change, {}, {"a": None, "b": True})
        self.large("depth", change, {}, {"a": None, "b": nested(8)})
        self.large("parts", change, {}, {"a": None, **wide(200)})


class Undoing(Changing):

    def test_rows(self):
        for document, row, patch in (
                ({}, [], {}), (5, [], 5), (None, [], None), ({"a": None}, [], {}),
                ({"a": None}, [{"b": 1}], {"b": None}),
                ({"a": 1, "b": 2}, [{"a": None}, {"c": 3}], {"a": 1, "c": None}), ({"a": 1}, [{"a": 2}], {"a": 1}),
                ({"a": 1}, [5], {"a": 1}), ({}, [None], {}), ([1], [{}], [1]),
                ({"a": {"b": 1, "c": 2}}, [{"a": {"b": None}}], {"a": {"b": 1}}),
                ({"a": {"b": 1}}, [{"a": 5}, {"a": {}}], {"a": {"b": 1}}), ({"a": 5}, [{"a": {"b": 1}}], {"a": 5}),
                ({"a": 1}, [{"a": 2}, {"b": 1}, {"a": 1, "b": None}], {})):
            with self.subTest(document=document, row=row):
                for given in (row, tuple(row)):
                    self.assertEqual(undoing(document, given), patch)
                self.assertEqual(merge_patch(merge_row(document, row), patch), document)

    def test_what_no_patch_can_undo(self):
        for document, row, path in (
                ({"a": None}, [{"a": 1}], ("a",)), ({"a": None}, [5], ("a",)), ({"a": None}, [{"a": None}], ("a",)),
                ({"b": {"d": None, "c": None}, "a": 1}, [{"a": 2, "b": {"d": 1, "c": 1}}], ("b", "c")),
                ({"b": None, "a": {"c": None}}, [None], ("a", "c"))):
            with self.subTest(document=document, row=row):
                self.no_change(path, undoing, document, row)

    def test_many_documents_and_rows(self):
        for document in FEW + random_documents(40):
            for row in ROWS[::3] + random_rows(60, 4, 3):
                after = merge_row(document, row)
                path = none_to_make(after, document)
                if path is not None:
                    self.no_change(path, undoing, document, row)
                else:
                    patch = undoing(document, row)
                    self.assertEqual(merge_patch(after, patch), document)

    def test_a_document_that_the_row_has_made_large(self):
        row = [{"z" + str(place): place for place in range(199)}]
        self.assertEqual(undoing(wide(200), row), {key: None for key in row[0]})

    def test_order_of_the_errors(self):
        self.refused(("b",), undoing, {"a": None, "b": True}, [5])
        self.refused(("b",), undoing, {"a": None}, [5, {"b": True}])
        self.large("row", undoing, {"a": None}, [5] * 201)

    def test_results_are_new(self):
        document, row = {"a": {"b": [1]}, "c": [2]}, [{"a": 1, "c": None}]
        patch = undoing(document, row)
        self.assertEqual(patch, document)
        self.assertFalse(shares(patch, [document]))


class IsResult(unittest.TestCase):

    def test_rows(self):
        for row, document, expected in (
                ([], {}, True), ([], None, True), ([], {"a": None}, True), ([5], 5, True), ([5], 6, False),
                ([5], {}, False), ([None], None, True), ([{}], {}, True), ([{}], {"a": None}, True),
                ([{}], 5, False), ([{}], None, False), ([[1]], [1], True), ([[1]], [1, 1], False),
                ([{"a": 1}], {"a": 1, "b": 2}, True), ([{"a": 1}], {"a": 2}, False), ([{"a": 1}], {}, False),
                ([{"a": None}], {}, True), ([{"a": None}], {"a": None}, False), ([{"a": None}], {"b": None}, True),
                ([{"a": {}}], {"a": {}}, True), ([{"a": {}}], {"a": {"b": None}}, True),
                ([{"a": {}}], {"a": 1}, False), ([{"a": {}}], {}, False), ([5, {"a": 1}], {"a": 1}, True),
                ([5, {"a": 1}], {"a": 1, "b": 2}, False), ([{"a": 1}, {"a": {"b": 2}}], {"a": {"b": 2}}, True),
                ([{"a": 1}, {"a": {"b": 2}}], {"a": {"b": 2, "c": 3}}, False),
                ([{"a": 1}, {"a": {"b": 2}}], {"a": {"b": 2}, "c": 3}, True)):
            with self.subTest(row=row, document=document):
                for given in (row, tuple(row)):
                    self.assertIs(is_result(given, document), expected)

    def test_all_results_and_no_other_documents(self):
        for row in ROWS[::2] + ROWS[-9:]:
            results = {repr_of(merge_row(document, row)) for document in DOCUMENTS}
            for document in DOCUMENTS:
                found = is_result(row, document)
                if repr_of(document) in results:
                    self.assertIs(found, True, (row, document))
                else:
                    # The fact of the point: what the row leaves as it is would be a result.
                    self.assertIs(found, False, (row, document))

    def test_a_document_that_the_row_would_make_large(self):
        row = [{"z" + str(place): place for place in range(199)}]
        self.assertIs(is_result(row, wide(200)), False)
        self.assertIs(is_result([wide(200)], wide(200)), True)


class Lost(unittest.TestCase):

    def test_rows_that_do_nothing_to_any_object(self):
        for row in ([], (), [{}], ({},), [{}, {}], [{}] * 200):
            self.assertIsNone(lost(row))

    def test_pairs(self):
        rows = ROWS + [[one] for one in MANY] + random_rows(500, 4, 4) + [
            [nested(8)], [nested(7, {})], [wide(200)], [None, wide(199)], [{"": 1}], [{"": {"": None}}], [5, {}]]
        # A row that does something to any object does something to one of these.
        objects = [{}] + [{key: 9} for key in ["", "0", "1", "a", "b", "k", "k0"]]
        for row in rows:
            if all(merge_row(document, row) == document for document in objects):
                self.assertIsNone(lost(row), row)
                continue
            for given in (row, tuple(row)):
                pair = lost(given)
                self.assertIsInstance(pair, tuple)
                one, other = pair
                self.assertIsInstance(one, dict)
                self.assertIsInstance(other, dict)
                self.assertNotEqual(one, other)
                check(one)
                check(other)
                self.assertEqual(merge_row(one, row), merge_row(other, row), row)

    def test_pairs_are_new(self):
        for row in ([{"a": 1}], [5], [None, {"a": {}}]):
            one, other = lost(row), lost(row)
            self.assertEqual(one, other)
            for document in one:
                self.assertFalse(shares(document, other))
            one[0]["later"] = 1
            self.assertEqual(lost(row), other)


def asks(one, keys, path=()):
    """What an effect asks for at each place, by paths, where keys are all that may occur."""
    if one.kind == "keep":
        return {}
    if one.kind == "drop":
        return {path: "nothing"}
    if one.kind == "set":
        return {path: ("atom", one.atom)}
    found = {path: "object"}
    members = dict(one.members)
    for key in keys:
        if key in members:
            found.update(asks(members[key], keys, (*path, key)))
        elif one.kind == "build":
            found[(*path, key)] = "nothing"
    return found


def first_clash(row, other):
    """The first path at which both effects ask for different things, or None."""
    keys = ["", "0", "1", "a", "b", "c", "k"]
    one, two = asks(effect(row), keys), asks(effect(other), keys)
    return min([path for path in one if path in two and one[path] != two[path]], default=None)


class Shared(unittest.TestCase):

    def is_shared(self, row, other, document):
        check(document)
        for one in (row, other):
            self.assertEqual(merge_row(document, one), document, (row, other, document))

    def test_clashes(self):
        for row, other, path in (
                ([5], [6], ()), ([None], [5], ()), ([None], [{}], ()), ([{}], [[]], ()), ([[1]], [[1, 1]], ()),
                ([1], ["1"], ()), ([5, {}], [5], ()), ([{"a": 1}], [5], ()), ([None], [5, {}], ()),
                ([{"a": 1}], [{"a": 2}], ("a",)), ([{"a": 1}], [{"a": None}], ("a",)),
                ([{"a": 1}], [{"a": {}}], ("a",)), ([{"a": 1}], [{"a": {"b": 2}}], ("a",)),
                ([{"a": None}], [{"a": {}}], ("a",)), ([{"a": {}}], [{"a": None}], ("a",)),
                ([{"a": [1]}], [{"a": [2]}], ("a",)),
                # What a build does not have, it asks not to be there.
                ([5, {}], [{"a": 1}], ("a",)), ([{"a": 1}], [5, {}], ("a",)), ([5, {}], [{"a": {}}], ("a",)),
                ([5, {"b": 1}], [5, {"a": 1}], ("a",)),
                ([{"a": {"b": {"c": 1}}}], [{"a": 1}, {"a": {}}], ("a", "b")),
                ([{"a": 1}, {"a": {"b": 1}}], [{"a": {"c": 2}}], ("a", "c")),
                # The first one: an object before its members, the members by ascending keys.
                ([{"b": 1, "a": 1}], [{"b": 2, "a": 2}], ("a",)), ([{"b": 1, "a": 1}], [{"b": 2, "a": 1}], ("b",)),
                ([{"b": 1, "a": {"z": 1}}], [{"b": 2, "a": {"z": 2}}], ("a", "z")),
                ([{"b": {"a": 1}, "c": 1}], [{"b": {"a": 2}, "c": 2}], ("b", "a")),
                ([{"b": {"a": 1}}], [{"b": 5, "c": 2}], ("b",)),
                ([{"10": 1, "9": 1}], [{"9": 2, "10": 2}], ("10",)),
                ([{"a": 1, "B": 1}], [{"B": 2, "a": 2}], ("B",)), ([{"": 1}], [{"": 2}], ("",)),
                ([5, {"b": 1}], [{"a": {"z": 1}, "b": 2}], ("a",)), ([nested(8, 1)], [nested(8, 2)], ("k",) * 8)):
            with self.subTest(row=row, other=other):
                for one, two in ((row, other), (other, row), (tuple(row), tuple(other))):
                    clash = shared(one, two)
                    self.assertIsInstance(clash, Clash)
                    self.assertEqual(clash.path, path)
                    self.assertIsInstance(clash.path, tuple)
                    self.assertEqual(clash, Clash(path))

    def test_documents(self):
        for row, other in (
                ([], []), ([], [5]), ([], [None]), ([{}], [{}]), ([], [{}]), ([5], [5]), ([None], [None]),
                ([[1, None]], [[1, None]]), ([6, 5], [{}, 5]), ([{"a": 1}], [{"b": 2}]), ([{"a": 1}], [{"a": 1}]),
                ([{"a": None}], [{"a": None}]), ([{"a": None}], [{"b": None}]), ([{"a": None}], [5, {}]),
                ([5, {}], [{"a": None}]), ([5, {"a": 1}], [{"a": 1}]), ([5, {"a": 1}], [{"a": 1, "b": None}]),
                ([{"a": {"b": 1}}], [{"a": {"c": 1}}]), ([{"a": {"b": None}}], [{"a": {}}]),
                ([{"a": 1}, {"a": {}}], [{"a": {"b": None}}]), ([5, {"a": {"b": 1}}], [{"a": {"b": 1}, "c": None}]),
                ([nested(8, 1)], [nested(7, {"j": 2})]), ([nested(8)], [nested(7, {})]), ([wide(200)], [wide(200)]),
                ([wide(200)], [{"k0": 0, "z": None}])):
            with self.subTest(row=row, other=other):
                for one, two in ((row, other), (other, row), (tuple(row), tuple(other))):
                    self.is_shared(one, two, shared(one, two))

    def test_each_pair_of_rows(self):
        rows = ROWS + random_rows(60, 3, 3)
        for row in rows:
            for other in rows:
                found = shared(row, other)
                path = first_clash(row, other)
                if path is None:
                    self.is_shared(row, other, found)
                else:
                    self.assertEqual(found, Clash(path), (row, other))

    def test_where_rows_clash_they_have_no_result_in_common(self):
        fixed = {place: {repr_of(document) for document in DOCUMENTS if merge_row(document, row) == document}
                 for place, row in enumerate(ROWS)}
        for place, row in enumerate(ROWS):
            for other_place, other in enumerate(ROWS):
                if isinstance(shared(row, other), Clash):
                    self.assertFalse(fixed[place] & fixed[other_place], (row, other))

    def test_a_large_result(self):
        other = [{"z" + str(place): place for place in range(199)}]
        found = shared([wide(200)], other)
        self.assertEqual(found, {**wide(200), **other[0]})

    def test_results_are_new(self):
        row, other = [{"a": [1], "b": {"c": [2]}}], [{"a": [1], "d": {}}]
        one, two = shared(row, other), shared(row, other)
        self.assertEqual(one, two)
        self.assertFalse(shares(one, row + other + [two]))


class ClashObjects(unittest.TestCase):

    def test_field(self):
        for path in ((), ("a",), ("a", "", "b c")):
            self.assertEqual(Clash(path).path, path)
            self.assertEqual(Clash(path=path).path, path)
            self.assertEqual(vars(Clash(path)), {"path": path})

    def test_the_path_is_stored_as_a_tuple(self):
        path = ["a", "b"]
        clash = Clash(path)
        path.append("c")
        self.assertEqual(clash.path, ("a", "b"))
        self.assertIsInstance(clash.path, tuple)

    def test_equality(self):
        self.assertIs(Clash(("a",)) == Clash(["a"]), True)
        self.assertIs(Clash(()) == Clash(()), True)
        self.assertIs(Clash(("a",)) == Clash(("b",)), False)
        self.assertIs(Clash(("a",)) != Clash(("a",)), False)
        self.assertIs(Clash(("a",)) == Clash(()), False)
        for other in (("a",), ["a"], None, 5, "a", {"path": ("a",)}, Effect("keep", None, ()), NoChange(("a",))):
            self.assertIs(Clash(("a",)) == other, False)
            self.assertIs(other == Clash(("a",)), False)
            self.assertIs(Clash(("a",)) != other, True)


class Time(unittest.TestCase):

    def test_large_rows(self):
        rows = ([{str(place): 1} for place in range(100)], [{"k": {str(place): {}}} for place in range(66)],
                list(range(199)) + [{}], [nested(7, wide(193))])
        begin = time.perf_counter()
        for row in rows:
            lost(row)
            is_result(row, wide(200))
            undoing(wide(200), row)
            for other in rows:
                shared(row, other)
        self.assertLess(time.perf_counter() - begin, 5)


if __name__ == "__main__":
    unittest.main()
