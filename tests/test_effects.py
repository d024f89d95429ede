"""Effects: points [5] and [6], with the conventions of [2]."""

import copy
import itertools
import unittest

from support import FEW, MANY, doing, merge_row, nested, shares, wide
from twopatches.documents import run
from twopatches.effects import Effect, effect
from twopatches.errors import Large, NoDocument

KEEP = ("keep",)
DROP = ("drop",)


def put(atom):
    return ("set", atom)


def merge(**members):
    return ("merge", members)


def build(**members):
    return ("build", members)


def tree(one):
    """An effect as nested tuples and dictionaries, after a look at the fields of each kind."""
    assert one.__class__ is Effect and isinstance(one.members, tuple)
    assert all(isinstance(pair, tuple) and len(pair) == 2 for pair in one.members)
    if one.kind in ("merge", "build"):
        assert one.atom is None
        return (one.kind, {key: tree(member) for key, member in one.members})
    assert one.members == ()
    if one.kind == "set":
        assert not isinstance(one.atom, list)
        return (one.kind, one.atom)
    assert one.kind in ("keep", "drop") and one.atom is None
    return (one.kind,)


# Rows, each with the tree of its effect.
TREES = (
    # The five kinds for the whole document.
    ([], KEEP),
    ([5], put(5)),
    ([None], put(None)),
    ([""], put("")),
    ([{}], merge()),
    ([{}, {}], merge()),
    ([None, {}], build()),
    ([{}, None], put(None)),
    ([5, {"a": 1}], build(a=put(1))),
    ([5, {"a": 1}, 6], put(6)),
    ([{"a": 1}, 6], put(6)),
    ([5, 6], put(6)),
    # Lists are atoms.
    ([[]], put(())),
    ([[1, None, "x"]], put((1, None, "x"))),
    ([{"a": [1], "b": {"c": ["x", None]}}], merge(a=put((1,)), b=merge(c=put(("x", None))))),
    ([{"a": [1]}, {"a": [2, 3]}], merge(a=put((2, 3)))),
    ([[1], {"a": []}], build(a=put(()))),
    ([{"a": [1]}, {"a": {"b": [2]}}], merge(a=build(b=put((2,))))),
    # A single patch has no build.
    ([{"a": 1, "b": None, "c": {}}], merge(a=put(1), b=DROP, c=merge())),
    ([{"a": {"b": None}}], merge(a=merge(b=DROP))),
    ([{"a": {"b": {"c": 1, "d": None}}}], merge(a=merge(b=merge(c=put(1), d=DROP)))),
    # Two effects on one member.
    ([{"a": 1}, {"a": 2}], merge(a=put(2))),
    ([{"a": 1}, {"a": None}], merge(a=DROP)),
    ([{"a": None}, {"a": 1}], merge(a=put(1))),
    ([{"a": None}, {"a": None}], merge(a=DROP)),
    ([{"a": {"b": 1}}, {"a": None}], merge(a=DROP)),
    ([{"a": {"b": 1}}, {"a": 1}], merge(a=put(1))),
    ([{"a": {"b": 1}}, {"a": {"c": 2}}], merge(a=merge(b=put(1), c=put(2)))),
    ([{"a": {"b": 1}}, {"a": {"b": None}}], merge(a=merge(b=DROP))),
    ([{"a": {"b": 1}}, {"a": {}}], merge(a=merge(b=put(1)))),
    ([{"a": 1}, {"b": 2}], merge(a=put(1), b=put(2))),
    ([{"a": 1}, {}], merge(a=put(1))),
    ([{}, {"a": 1}], merge(a=put(1))),
    # A member that is deleted or set to an atom, and then merged.
    ([{"a": None}, {"a": {}}], merge(a=build())),
    ([{"a": 1}, {"a": {}}], merge(a=build())),
    ([{"a": None}, {"a": {"b": 1}}], merge(a=build(b=put(1)))),
    ([{"a": None}, {"a": {"b": None}}], merge(a=build())),
    ([{"a": 1}, {"a": {"b": {"c": None, "d": 2}}}], merge(a=build(b=build(d=put(2))))),
    ([{"a": {"b": None}}, {"a": {"b": {"c": 1}}}], merge(a=merge(b=build(c=put(1))))),
    ([{"a": None, "b": 1}, {"a": {"c": 3}}, {"d": None}], merge(a=build(c=put(3)), b=put(1), d=DROP)),
    ([5, {"a": None}], build()),
    ([5, {"a": {"b": None}}], build(a=build())),
    ([5, {"a": {}, "b": {"c": {}}}], build(a=build(), b=build(c=build()))),
    # What comes after a build.
    ([5, {"a": 1}, {}], build(a=put(1))),
    ([5, {"a": 1}, {"a": None}], build()),
    ([5, {"a": 1}, {"b": None}], build(a=put(1))),
    ([5, {"a": 1}, {"b": 2}], build(a=put(1), b=put(2))),
    ([5, {"a": 1}, {"a": {"b": 2}}], build(a=build(b=put(2)))),
    ([5, {"a": {"b": 1}}, {"a": {"c": 2}}], build(a=build(b=put(1), c=put(2)))),
    ([5, {"a": {"b": 1}}, {"a": {"b": None}}], build(a=build())),
    ([5, {"a": {"b": 1}}, {"a": None}], build()),
    ([5, {"a": {"b": 1}}, {"a": [2]}], build(a=put((2,)))),
    ([{"a": None}, {"a": {"b": 1}}, {"a": {"b": None, "c": {"d": None}}}], merge(a=build(c=build()))),
    ([{"a": None}, {"a": {"b": 1}}, {"a": None}], merge(a=DROP)),
    ([{"a": None}, {"a": {"b": 1}}, {"a": 2}], merge(a=put(2))),
    ([{"a": None}, {"a": {"b": 1}}, {"a": 2}, {"a": {"c": 3}}], merge(a=build(c=put(3)))),
    ([{"a": None}, {"a": {"b": 1}}, None, {"a": {}}], build(a=build())),
)

# All rows of up to two of these patches, and of three of the first ones.
ROWS = ([()] + [(one,) for one in MANY] + [(one, other) for one in FEW for other in FEW]
        + list(itertools.product(FEW[1:8], repeat=3)))


class Trees(unittest.TestCase):

    def test_rows(self):
        for row, expected in TREES:
            with self.subTest(row=row):
                self.assertEqual(tree(effect(row)), expected)
                self.assertEqual(tree(effect(tuple(row))), expected)

    def test_by_name(self):
        self.assertEqual(tree(effect(row=[{"a": 1}])), merge(a=put(1)))

    def test_members_ascend_whatever_order_the_keys_had(self):
        keys = ("", " ", "10", "9", "B", "a", "a ", "aa", "b")
        for order in (keys, keys[::-1], keys[4:] + keys[:4]):
            one = effect([{key: {inner: 1 for inner in order} for key in order}])
            self.assertEqual(tuple(key for key, _ in one.members), keys)
            for _, member in one.members:
                self.assertEqual(tuple(key for key, _ in member.members), keys)
            built = effect([0, {order[0]: 1}] + [{key: 1} for key in order])
            self.assertEqual(built.kind, "build")
            self.assertEqual(tuple(key for key, _ in built.members), keys)
            merged = effect([{key: None} for key in order])
            self.assertEqual(tuple(key for key, _ in merged.members), keys)

    def test_the_order_of_the_keys_does_not_matter(self):
        self.assertEqual(effect([{"a": 1, "b": {"c": 2, "d": 3}}]), effect([{"b": {"d": 3, "c": 2}, "a": 1}]))

    def test_what_point_five_says_of_the_members(self):
        for row in ROWS:
            self.look(effect(row), row, len(row) < 2)

    def look(self, one, row, single):
        kinds = [member.kind for _, member in one.members]
        self.assertEqual([key for key, _ in one.members], sorted({key for key, _ in one.members}), row)
        self.assertNotIn("keep", kinds, row)
        if one.kind == "build":
            self.assertFalse(single, row)
            self.assertNotIn("drop", kinds, row)
            self.assertNotIn("merge", kinds, row)
        for _, member in one.members:
            self.assertFalse(member.kind == "set" and member.atom is None, row)
            self.look(member, row, single)
        tree(one)

    def test_effects_are_equal_exactly_if_the_rows_do_the_same(self):
        trees, doings = {}, {}
        for row in ROWS:
            shown = repr(tree(effect(row)))
            did = doing(row)
            self.assertEqual(doings.setdefault(shown, did), did, row)
            self.assertEqual(trees.setdefault(did, shown), shown, row)

    def test_large_rows(self):
        one = effect([{"k": {str(place): place}} for place in range(66)])
        self.assertEqual(tree(one), merge(k=merge(**{str(place): put(place) for place in range(66)})))
        self.assertEqual(tree(effect([{}] * 200)), merge())
        deep = effect([nested(8), nested(7, {"a": 1})])
        for _ in range(7):
            self.assertEqual(deep.kind, "merge")
            (key, deep), = deep.members
            self.assertEqual(key, "k")
        self.assertEqual(tree(deep), merge(k=DROP, a=put(1)))


class ByHand(unittest.TestCase):
    """Effects that the constructor makes."""

    def setUp(self):
        self.one = Effect("set", 1, ())
        self.two = Effect("set", [2, "x"], ())

    def test_fields(self):
        self.assertEqual((self.one.kind, self.one.atom, self.one.members), ("set", 1, ()))
        made = Effect("merge", None, (("a", self.one),))
        self.assertEqual((made.kind, made.atom), ("merge", None))
        self.assertEqual(made.members, (("a", self.one),))

    def test_by_name(self):
        made = Effect(members=[("a", Effect(atom=[1], members=(), kind="set"))], kind="build", atom=None)
        self.assertEqual(tree(made), build(a=put((1,))))

    def test_members_in_any_order(self):
        pairs = [("a", self.one), ("b", self.two), ("c", Effect("drop", None, ())), ("B", Effect("merge", None, ()))]
        for order in itertools.permutations(pairs):
            made = Effect("merge", None, order)
            self.assertEqual([key for key, _ in made.members], ["B", "a", "b", "c"])
            self.assertEqual(made, effect([{"a": 1, "b": [2, "x"], "c": None, "B": {}}]))

    def test_sequences_are_stored_as_tuples(self):
        for members in ([["b", self.two], ["a", self.one]], (["b", self.two], ("a", self.one)),
                        [("b", self.two), ("a", self.one)], (("b", self.two), ("a", self.one))):
            made = Effect("merge", None, members)
            self.assertEqual(made.members, (("a", self.one), ("b", self.two)))
            self.assertEqual([pair.__class__ for pair in made.members], [tuple, tuple])
        self.assertEqual(self.two.atom, (2, "x"))
        self.assertEqual(Effect("set", (2, "x"), []).atom, (2, "x"))
        self.assertEqual(Effect("set", [], []).atom, ())
        self.assertEqual(Effect("set", [], []).members, ())

    def test_other_atoms_are_stored_as_they_are(self):
        for atom in (None, 0, -5, "", "ab", 10 ** 3999):
            self.assertEqual(Effect("set", atom, ()).atom, atom)

    def test_later_changes_have_no_effect(self):
        atom = [2, "x"]
        pair = ["a", Effect("set", atom, ())]
        members = [pair]
        made = Effect("build", None, members)
        atom.append(3)
        pair[0] = "b"
        members.append(("c", self.one))
        self.assertEqual(tree(made), build(a=put((2, "x"))))

    def test_what_is_passed_stays_as_it_is(self):
        members = [["b", self.one], ["a", self.two]]
        Effect("merge", None, members)
        self.assertEqual(members, [["b", self.one], ["a", self.two]])

    def test_it_works_as_that_of_a_row(self):
        made = Effect("merge", None, [["b", Effect("build", None, [["c", self.two]])], ["a", self.one]])
        self.assertEqual(made, effect([{"a": 1, "b": None}, {"b": {"c": [2, "x"]}}]))
        self.assertEqual(made({"b": {"d": 1}, "e": 1}), {"a": 1, "b": {"c": [2, "x"]}, "e": 1})
        self.assertEqual(tree(made + effect([{"b": {"c": None}}])), merge(a=put(1), b=build()))
        self.assertEqual(made + Effect("keep", None, []), made)


class Equality(unittest.TestCase):

    def test_equal_effects(self):
        for row in ROWS:
            self.assertTrue(effect(row) == effect(copy.deepcopy(row)))
            self.assertFalse(effect(row) != effect(list(row)))
        self.assertTrue(effect([{"a": 1}, {"a": 2}]) == effect([{"a": 2}]))
        self.assertTrue(effect([{"a": 1}, {"b": 2}]) == effect([{"b": 2}, {"a": 1}]))

    def test_different_effects(self):
        for (row, one), (other_row, other) in itertools.combinations(TREES, 2):
            with self.subTest(row=row, other=other_row):
                self.assertEqual(effect(row) == effect(other_row), one == other)
                self.assertEqual(effect(row) != effect(other_row), one != other)

    def test_each_field_counts(self):
        members = (("a", Effect("set", 1, ())),)
        self.assertNotEqual(Effect("keep", None, ()), Effect("drop", None, ()))
        self.assertNotEqual(Effect("merge", None, members), Effect("build", None, members))
        self.assertNotEqual(Effect("set", 1, ()), Effect("set", 2, ()))
        self.assertNotEqual(Effect("set", (1,), ()), Effect("set", 1, ()))
        self.assertNotEqual(Effect("set", "1", ()), Effect("set", 1, ()))
        self.assertNotEqual(Effect("merge", None, members), Effect("merge", None, ()))
        self.assertNotEqual(Effect("merge", None, members), Effect("merge", None, (("b", Effect("set", 1, ())),)))
        self.assertNotEqual(Effect("merge", None, members), Effect("merge", None, (("a", Effect("set", 2, ())),)))

    def test_values_of_other_classes(self):
        class Like:
            def __init__(self, one):
                self.kind, self.atom, self.members = one.kind, one.atom, one.members

        for row in ([], [None], [5], [{}], [{"a": 1}]):
            one = effect(row)
            for other in (None, 0, 5, "", "keep", "set", (), [], {}, {"a": 1}, row, tree(one), NoDocument(()), Effect,
                          (one.kind, one.atom, one.members), [one], (one,), Like(one), object(), 1.5):
                self.assertIs(one == other, False)
                self.assertIs(other == one, False)
                self.assertIs(one != other, True)


class Sums(unittest.TestCase):

    def test_two_rows_that_together_are_a_row(self):
        for row, expected in TREES:
            for cut in range(len(row) + 1):
                with self.subTest(row=row, cut=cut):
                    one, other = effect(row[:cut]), effect(row[cut:])
                    self.assertEqual(tree(one + other), expected)
                    self.assertEqual(one + other, effect(row))

    def test_each_two_of_many_patches(self):
        for one, other in itertools.product(MANY, repeat=2):
            self.assertEqual(effect([one]) + effect([other]), effect([one, other]))

    def test_grouping(self):
        some = [effect(row) for row, _ in TREES[::3]]
        for one, two, three in itertools.product(some, repeat=3):
            self.assertEqual((one + two) + three, one + (two + three))

    def test_the_effect_of_the_empty_row(self):
        keep = effect([])
        for row in ROWS:
            one = effect(row)
            self.assertEqual(keep + one, one)
            self.assertEqual(one + keep, one)
        self.assertEqual(tree(keep + keep), KEEP)

    def test_an_effect_added_to_itself(self):
        for row, _ in TREES:
            one = effect(row)
            self.assertEqual(one + one, effect(list(row) + list(row)))
        one = effect([{"a": {"b": None, "c": 1}}])
        self.assertEqual(one + one, one)
        one = effect([{"a": {"b": 1}}, {"a": None}])
        self.assertEqual(one + one, one)
        one = effect([{"a": {"b": 1}, "c": 5}, {"c": {"d": None}}])
        self.assertEqual(one + one, one)

    def test_the_sum_is_one_and_then_the_other(self):
        for row, _ in TREES:
            for other, _ in TREES:
                both = effect(row) + effect(other)
                for document in FEW:
                    self.assertEqual(both(document), merge_row(merge_row(document, row), other), (row, other, document))

    def test_both_summands_stay_as_they_are(self):
        for row, expected in TREES:
            for other, other_expected in TREES:
                one, two = effect(row), effect(other)
                total = one + two
                self.assertIs(total.__class__, Effect)
                self.assertEqual(tree(one), expected)
                self.assertEqual(tree(two), other_expected)
                self.assertEqual(total, one + two)
                one += two
                self.assertEqual(one, total)
                self.assertEqual(tree(two), other_expected)

    def test_sums_may_be_larger_than_rows(self):
        one = effect([wide(200)])
        other = effect([{"a" + key: 1 for key in wide(200)}])
        self.assertEqual(len((one + other).members), 398)
        self.assertEqual(len((effect([5]) + one + other).members), 398)


class Called(unittest.TestCase):

    def test_as_run(self):
        for row, _ in TREES:
            for document in MANY:
                self.assertEqual(effect(row)(document), run(document, row), (row, document))
        for row in ROWS:
            for document in FEW:
                self.assertEqual(effect(row)(document), merge_row(document, row), (row, document))

    def test_by_name(self):
        self.assertEqual(effect([{"a": 1}])(document={"b": 2}), {"a": 1, "b": 2})

    def test_none_that_stays_in_the_document(self):
        one = effect([{"a": {}, "c": None}])
        self.assertEqual(one({"a": 5, "b": None, "c": None}), {"a": {}, "b": None})
        self.assertEqual(one({"a": {"a": None}}), {"a": {"a": None}})
        self.assertEqual(effect([])({"a": None}), {"a": None})

    def test_lists_are_lists_again(self):
        one = effect([{"a": [1, None], "b": {"c": []}, "d": None}, {"d": {"e": ["x"]}}])
        for _ in range(2):
            result = one({"f": [2]})
            self.assertEqual(result, {"a": [1, None], "b": {"c": []}, "d": {"e": ["x"]}, "f": [2]})
            self.assertEqual([result["a"].__class__, result["b"]["c"].__class__], [list, list])
            result["a"].append(9)
            result["b"]["c"].append(9)
            result["d"]["e"].append(9)
        self.assertEqual(effect([[]])(5), [])
        self.assertEqual(effect([[1, 2]])({}), [1, 2])
        self.assertEqual(effect([[1], {"a": [2]}])(None), {"a": [2]})

    def test_the_document_is_checked(self):
        wrong = ((True, ()), (1.5, ()), ({"a": (1,)}, ("a",)), ({"b": 1.5, "a": {"c": [[]]}}, ("a", "c")),
                 ({"z": {1: 2}}, ("z",)), (nested(20, True), ("k",) * 20))
        large = ((nested(9), "depth"), (wide(201), "parts"), ({**wide(300), "z": nested(8)}, "depth"))
        for row, _ in TREES:
            one = effect(row)
            for document, path in wrong + ((one, ()),):
                with self.assertRaises(NoDocument) as raised:
                    one(document)
                self.assertEqual(raised.exception.path, path)
            for document, what in large:
                with self.assertRaises(Large) as raised:
                    one(document)
                self.assertEqual(raised.exception.what, what)
            one(nested(8))
            one(wide(200))

    def test_the_document_stays_as_it_is_and_is_not_shared(self):
        document = {"a": {"b": [1], "c": {"d": [2]}}, "e": [3], "f": {"g": {}}, "h": 1}
        rows = [row for row, _ in TREES] + [[{"a": {"c": {"x": 1}}}], [{"f": {"g": {"y": [1]}}, "h": {}}]]
        for row in rows:
            given = copy.deepcopy(document)
            one = effect(row)
            before = tree(one)
            result = one(given)
            self.assertEqual(given, document)
            self.assertFalse(shares(result, [given]), row)
            self.assertEqual(one(given), result)
            self.assertFalse(shares(one(given), [result]), row)
            self.assertEqual(tree(one), before)

    def test_a_list_that_is_passed_twice_stands_once_in_each_place(self):
        items = [1]
        for result in (effect([])({"a": items, "b": {"c": items}}), effect([{"a": items, "b": {"c": items}}])({})):
            self.assertEqual(result, {"a": [1], "b": {"c": [1]}})
            self.assertFalse(shares(result, [items]))


class OwnRows(unittest.TestCase):

    def test_the_row_stays_as_it_is(self):
        for row, _ in TREES:
            given = copy.deepcopy(row)
            effect(given)
            self.assertEqual(given, row)

    def test_later_changes_have_no_effect(self):
        row = [{"a": [1], "b": {"c": 1}}, {"d": {"e": [2]}}]
        one = effect(row)
        expected = merge(a=put((1,)), b=merge(c=put(1)), d=merge(e=put((2,))))
        row[0]["a"].append(9)
        row[0]["b"]["c"] = 9
        row[1]["d"]["e"] = 9
        row.append({"z": 1})
        self.assertEqual(tree(one), expected)
        self.assertEqual(one({}), {"a": [1], "b": {"c": 1}, "d": {"e": [2]}})

    def test_the_same_call_returns_the_same(self):
        for row, _ in TREES:
            self.assertEqual(effect(row), effect(row))


if __name__ == "__main__":
    unittest.main()
