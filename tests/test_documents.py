"""Documents and patches: points [1] to [4], with the conventions of [2]."""

import copy
import unittest

from support import FEW, MANY, Refusing, merge_patch, merge_row, nested, shares, wide
from twopatches.documents import applied, check, run
from twopatches.effects import Effect, effect
from twopatches.errors import Large, NoBack, NoDocument

LONG = 10 ** 3999

GOOD = (
    None, 0, 7, -7, LONG, -LONG, "", "a", "x y~\"\\", [], [None], [1, -2, "x", None, ""], ["a"] * 1000,
    {}, {"a": None}, {"": 1}, {"a": {}}, {"a": {"b": {"c": []}}, "b": "text", "A": [LONG, None]},
)

# Values that are neither atoms nor dictionaries whose keys are all strings.
WRONG = (
    True, False, 0.0, 1.5, float("nan"), 1j, (), (1, 2), ("a",), b"", b"abc", set(), {1}, frozenset(),
    range(3), object(), int, len, Effect("keep", None, ()), effect([{}]), NoBack(),
    [True], [False], [1, True], [1.5], [None, (1,)], [b"a"], [[]], [1, [2]], [{}], [{"a": 1}], ["x", None, object()],
    {1: 2}, {None: 1}, {True: 1}, {("a",): 1}, {b"a": 1}, {"a": 1, 2: 3}, {1.5: "x", "b": {}},
)


class Check(Refusing):

    def test_good_documents(self):
        for value in GOOD:
            with self.subTest(value=value if value not in (LONG, -LONG) else "long"):
                self.assertIsNone(check(value))

    def test_by_name(self):
        self.assertIsNone(check(value={"a": 1}))
        self.refused(("a",), lambda: check(value={"a": 1.5}))

    def test_wrong_as_a_whole(self):
        for value in WRONG:
            with self.subTest(value=repr(value)):
                self.refused((), check, value)

    def test_wrong_as_a_member(self):
        for value in WRONG:
            with self.subTest(value=repr(value)):
                self.refused(("a",), check, {"a": value})
                self.refused(("b", "", "c"), check, {"a": 1, "b": {"": {"c": value, "d": {}}}})

    def test_a_list_is_itself_the_wrong_part(self):
        self.refused(("a",), check, {"a": [1, {"b": 2.5}]})
        self.refused(("a",), check, {"a": [[1.5]]})

    def test_members_in_ascending_order_of_their_keys(self):
        self.refused(("a",), check, {"b": 1.5, "a": 1.5, "c": 1.5})
        self.refused(("a",), check, {"a": 1.5, "b": 1.5})
        self.refused(("b",), check, {"c": 1.5, "b": 1.5, "a": 1})
        self.refused(("10",), check, {"9": 1.5, "10": 1.5})
        self.refused(("B",), check, {"a": 1.5, "B": 1.5})
        self.refused(("a",), check, {"aa": 1.5, "a ": 1.5, "a": 1.5})
        self.refused(("",), check, {" ": 1.5, "": 1.5})
        self.refused(("a", "c"), check, {"a": {"d": True, "c": True}, "b": True})

    def test_all_of_a_member_comes_before_the_next_member(self):
        self.refused(("a", "z", "z"), check, {"b": 1.5, "a": {"z": {"z": 1.5}}})
        self.refused(("a", "z"), check, {"b": {1: 1}, "a": {"z": 1.5}})
        self.refused(("b",), check, {"c": 1.5, "b": {1: 1}, "a": {"z": 1}})

    def test_an_object_comes_before_its_members(self):
        self.refused((), check, {"a": 1.5, 2: 1})
        self.refused((), check, {2: 1.5, "a": {"b": True}})
        self.refused(("a",), check, {"a": {"b": 1.5, None: 1}})
        self.refused(("a",), check, {"b": {}, "a": {"a": {1: 1}, 2: {}}})

    def test_levels(self):
        self.assertIsNone(check(nested(8)))
        self.assertIsNone(check(nested(8, "x")))
        self.assertIsNone(check(nested(7, {})))
        self.assertIsNone(check({"a": 1, "b": nested(7), "c": {}}))
        self.large("depth", check, nested(9))
        self.large("depth", check, nested(8, {}))
        self.large("depth", check, {"a": 1, "b": nested(8), "c": {}})
        self.large("depth", check, nested(50))

    def test_parts(self):
        self.assertIsNone(check(wide(200)))
        self.assertIsNone(check({"a": wide(100), "b": wide(99)}))
        self.assertIsNone(check({str(place): {} for place in range(199)}))
        self.large("parts", check, wide(201))
        self.large("parts", check, {"a": wide(100), "b": wide(100)})
        self.large("parts", check, {str(place): {} for place in range(200)})
        self.large("parts", check, {"a": {str(place): None for place in range(199)}})

    def test_elements_of_lists_are_no_parts(self):
        self.assertIsNone(check({**wide(199), "z": [1, None, "x"] * 100}))
        self.large("parts", check, {**wide(200), "z": []})

    def test_depth_goes_before_parts(self):
        self.large("depth", check, {**wide(200), "z": nested(8)})
        self.large("depth", check, nested(8, wide(300)))
        self.large("parts", check, nested(7, wide(300)))

    def test_a_wrong_part_goes_before_large(self):
        self.refused(("k",) * 20, check, nested(20, 1.5))
        self.refused(("k",) * 50, check, nested(50, 1.5))
        self.refused(("z",), check, {**wide(300), "z": True})
        self.refused(("z",), check, {"a": nested(9), "z": True})

    def test_the_value_stays_as_it_is(self):
        for value in ({"b": [1, {"c": 2}], "a": {}}, {"b": {"z": 1, "a": 2}, "a": [3]}, wide(201)):
            before = copy.deepcopy(value)
            try:
                check(value)
            except (NoDocument, Large):
                pass
            self.assertEqual(value, before)
            self.assertEqual(list(value), list(before))


class Arguments(Refusing):
    """The documents and rows that applied, run and effect are given."""

    def test_in_the_order_of_the_parameters(self):
        self.refused(("d",), applied, {"d": 1.5}, {"p": 1.5})
        self.refused(("p",), applied, {"d": 1}, {"p": 1.5})
        self.large("parts", applied, wide(201), {"p": 1.5})
        self.refused(("d",), applied, {"d": 1.5}, wide(201))
        self.refused(("d",), run, {"d": 1.5}, [{"p": 1.5}])
        self.refused(("p",), run, {"d": 1}, [{"p": 1.5}])
        self.large("depth", run, nested(9), [{"p": 1.5}])
        self.refused(("d",), run, {"d": 1.5}, [{}] * 201)

    def test_a_document_and_a_patch_as_check_does(self):
        self.large("depth", applied, nested(9), {})
        self.large("depth", applied, {}, nested(9))
        self.large("parts", applied, {}, wide(201))
        self.large("depth", applied, {}, {**wide(300), "z": nested(9)})
        self.large("parts", run, wide(201), [])
        self.refused((), applied, True, {})
        self.refused((), applied, {}, (1,))
        self.refused((), run, 1.5, [])

    def test_a_row_patch_by_patch(self):
        for call in (effect, lambda row: run({}, row), lambda row: run(None, tuple(row))):
            self.refused(("a",), call, [{}, 5, {"a": 1.5}, {"b": 1.5}])
            self.refused((), call, [{}, True])
            self.refused(("z",), call, [{}, {"z": [[]], "zz": 1.5}])
            self.large("depth", call, [{}, nested(9), {"a": 1.5}])
            self.large("parts", call, [wide(201), {"a": 1.5}])
            self.large("parts", call, [{}, wide(201), nested(9)])
            self.large("depth", call, [{}, nested(9), wide(201)])
            self.refused(("a",), call, [{"a": 1.5}, wide(201)])

    def test_a_row_with_too_many_parts(self):
        for call in (effect, lambda row: run({}, row)):
            for row in ([wide(200)], [wide(100), wide(100)], [{}] * 200, [None] * 200, [{"a": [1, 2]}] * 100):
                call(row)
                call(tuple(row))
                self.large("row", call, row + [{}])
                self.large("row", call, row + [None])
                self.large("row", call, tuple(row) + ([],))
            self.large("row", call, [wide(150), wide(150)])

    def test_the_patches_are_checked_before_the_row(self):
        self.refused(("a",), effect, [{}] * 300 + [{"a": True}])
        self.large("depth", effect, [wide(200), wide(200), nested(9)])
        self.refused(("a",), run, {}, [wide(200), wide(200), {"a": True}])

    def test_only_arguments_are_checked(self):
        other = {"other" + key: number for key, number in wide(200).items()}
        large = {**wide(200), **other}
        self.assertEqual(applied(wide(200), other), large)
        self.assertEqual(run(wide(200), [other]), large)
        self.assertEqual(effect([other])(wide(200)), large)
        self.assertEqual((effect([wide(200)]) + effect([other]))({}), large)
        self.assertEqual((effect([wide(200)]) + effect([other]))({"a": 5}), {**large, "a": 5})


class Applied(unittest.TestCase):

    def test_a_patch_that_is_an_atom(self):
        for document in GOOD:
            for atom in (None, 0, 5, -LONG, "", "x", [], [1, None, "x"]):
                self.assertEqual(applied(document, atom), atom)

    def test_none_for_a_key_that_is_there(self):
        self.assertEqual(applied({"a": 1, "b": 2}, {"a": None}), {"b": 2})
        self.assertEqual(applied({"a": None, "b": 2}, {"a": None}), {"b": 2})
        self.assertEqual(applied({"a": {"b": 1}}, {"a": None}), {})

    def test_none_for_a_key_that_is_not_there(self):
        self.assertEqual(applied({"b": 2}, {"a": None}), {"b": 2})
        self.assertEqual(applied({}, {"a": None}), {})
        self.assertEqual(applied({}, {"a": {"b": {"c": None}}}), {"a": {"b": {}}})

    def test_none_that_stays_in_the_document(self):
        self.assertEqual(applied({"a": None, "b": {"c": None}}, {"b": {"d": 1}}), {"a": None, "b": {"c": None, "d": 1}})
        self.assertEqual(applied({"a": None}, {}), {"a": None})

    def test_other_members_stay(self):
        self.assertEqual(
            applied({"a": {"b": 1, "c": [2]}, "d": {}}, {"a": {"b": 3}, "e": "x"}),
            {"a": {"b": 3, "c": [2]}, "d": {}, "e": "x"})

    def test_an_object_over_an_atom(self):
        for atom in (None, 0, 5, "x", [], [1]):
            self.assertEqual(applied(atom, {"a": 1, "b": None}), {"a": 1})
            self.assertEqual(applied({"a": atom}, {"a": {"b": {"c": 1, "d": None}}}), {"a": {"b": {"c": 1}}})

    def test_an_atom_over_an_object(self):
        self.assertEqual(applied({"a": {"b": 1}}, {"a": 5}), {"a": 5})
        self.assertEqual(applied({"a": {"b": 1}}, {"a": []}), {"a": []})

    def test_lists_are_replaced_as_a_whole(self):
        self.assertEqual(applied({"a": [1, 2, 3]}, {"a": [4]}), {"a": [4]})

    def test_the_empty_object(self):
        self.assertEqual(applied(5, {}), {})
        self.assertEqual(applied([1], {}), {})
        self.assertEqual(applied(None, {}), {})
        self.assertEqual(applied({"a": 1, "b": {}}, {}), {"a": 1, "b": {}})
        self.assertEqual(
            applied({"a": 5, "b": {"c": 1}}, {"a": {}, "b": {}, "c": {}}),
            {"a": {}, "b": {"c": 1}, "c": {}})

    def test_both_of_depth_eight(self):
        self.assertEqual(applied(nested(8, 1), nested(8, 2)), nested(8, 2))
        self.assertEqual(applied(nested(8, 1), nested(8)), nested(7, {}))
        self.assertEqual(applied(nested(7, {"a": 1}), nested(7, {"b": 2})), nested(7, {"a": 1, "b": 2}))
        document = {**nested(8, 1), "old": nested(7)}
        patch = {**nested(8, 2), "new": nested(7), "none": None}
        self.assertEqual(applied(document, patch), {**nested(8, 2), "old": nested(7), "new": nested(6, {})})

    def test_each_patch_on_each_document(self):
        for document in MANY:
            for patch in MANY:
                self.assertEqual(applied(document, patch), merge_patch(document, patch), (document, patch))

    def test_by_name(self):
        self.assertEqual(applied(patch={"a": 1}, document={"b": 2}), {"a": 1, "b": 2})

    def test_the_order_of_the_keys_does_not_matter(self):
        for patch in ({"a": None, "b": 1, "c": {}}, {"c": {}, "b": 1, "a": None}):
            for document in ({"a": 1, "c": 2}, {"c": 2, "a": 1}):
                self.assertEqual(applied(document, patch), {"b": 1, "c": {}})


class Run(unittest.TestCase):

    def test_an_empty_row(self):
        for document in GOOD:
            self.assertEqual(run(document, []), document)
            self.assertEqual(run(document, ()), document)

    def test_the_patches_in_order(self):
        self.assertEqual(run({}, [{"a": 1}, {"a": 2}]), {"a": 2})
        self.assertEqual(run({}, [{"a": 2}, {"a": 1}]), {"a": 1})
        self.assertEqual(run({"a": 1}, [5, {"b": 1}, {"a": {"c": 1}}]), {"b": 1, "a": {"c": 1}})
        self.assertEqual(run({"a": {"b": 1, "c": 2}}, [{"a": None}, {"a": {"b": 3}}]), {"a": {"b": 3}})
        self.assertEqual(run({"a": 1}, [{"b": 1}, None]), None)

    def test_a_list_or_a_tuple(self):
        row = [{"a": 1}, {"b": {"c": [1]}}, {"a": None}]
        self.assertEqual(run({"d": 1}, row), {"b": {"c": [1]}, "d": 1})
        self.assertEqual(run({"d": 1}, tuple(row)), {"b": {"c": [1]}, "d": 1})

    def test_each_row_of_two_and_three_on_each_document(self):
        rows = [[one, other] for one in MANY for other in FEW] + [[a, b, c] for a in FEW for b in FEW for c in FEW]
        for row in rows:
            for document in FEW:
                self.assertEqual(run(document, row), merge_row(document, row), (document, row))

    def test_by_name(self):
        self.assertEqual(run(row=[{"a": 1}], document={"b": 2}), {"a": 1, "b": 2})

    def test_both_of_depth_eight(self):
        row = [nested(8, 1), nested(7, {"a": 2}), nested(8)]
        self.assertEqual(run(nested(8, 0), row), nested(7, {"a": 2}))


class OwnResults(unittest.TestCase):
    """Nothing that is passed is changed, and nothing of it stands in a result."""

    document = {"a": {"b": [1], "c": {"d": [2]}}, "e": [3], "f": {"g": {}}, "h": 1}
    patches = (
        {}, [4], {"a": {"b": [5]}}, {"e": {"f": {"g": [6]}}}, {"a": None, "f": {"g": None}},
        {"n": {"o": {"p": [7]}, "q": None}}, {"h": {}}, {"e": []})

    def test_applied(self):
        for patch in self.patches:
            given = copy.deepcopy((self.document, patch))
            result = applied(*given)
            self.assertEqual(given, (self.document, patch))
            self.assertFalse(shares(result, given), patch)
            self.assertEqual(applied(*given), result)
            self.assertFalse(shares(applied(*given), [result]))

    def test_run(self):
        for row in [[]] + [[one] for one in self.patches] + [[a, b] for a in self.patches for b in self.patches]:
            given = copy.deepcopy(self.document)
            patches = copy.deepcopy(row)
            result = run(given, patches)
            self.assertEqual((given, patches), (self.document, row))
            self.assertFalse(shares(result, [given] + patches), row)
            self.assertEqual(run(given, patches), result)

    def test_a_list_that_is_passed_twice_stands_once_in_each_place(self):
        items = [1]
        twice = {"a": items, "b": items, "c": {"d": items}}
        alone = [applied(twice, {}), applied({}, twice)]
        for result in alone + [run(twice, []), run({}, [twice]), run(1, [twice, twice])]:
            self.assertEqual(result, twice)
            self.assertFalse(shares(result, [twice]))

    def test_later_changes_have_no_effect(self):
        document = {"a": [1], "b": {"c": 1}}
        patch = {"d": {"e": [2]}, "f": [3]}
        results = [applied(document, patch), run(document, [patch]), run(document, (patch, {}))]
        document["a"].append(9)
        document["b"]["c"] = 9
        patch["d"]["e"].append(9)
        patch["f"].append(9)
        for result in results:
            self.assertEqual(result, {"a": [1], "b": {"c": 1}, "d": {"e": [2]}, "f": [3]})

    def test_changes_of_the_result_reach_nothing(self):
        document = {"a": [1], "b": {"c": 1}}
        result = run(document, [])
        result["a"].append(9)
        result["b"]["c"] = 9
        self.assertEqual(document, {"a": [1], "b": {"c": 1}})
        self.assertEqual(run(document, []), document)


if __name__ == "__main__":
    unittest.main()
