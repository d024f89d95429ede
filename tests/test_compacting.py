"""Compacting: points [8] and [9]."""

import itertools
import time
import unittest

from support import FEW, MANY, doing, many_parts, nested, random_rows, wide
from twopatches.compacting import compact, core, latest, needless, writers
from twopatches.effects import effect

ROWS = [[]] + [[one] for one in MANY] + [[one, other] for one in FEW for other in FEW] + [
    list(row) for row in itertools.product(FEW[1:8], repeat=3)]

# Rows, each with the patches that compact returns for it.
COMPACTED = (
    # No patch.
    ([], []),
    # One patch.
    ([None], [None]),
    ([5], [5]),
    ([[]], [[]]),
    ([[1, None, "x"]], [[1, None, "x"]]),
    ([{}], [{}]),
    ([{}, {}], [{}]),
    ([{}, None], [None]),
    ([None, {}, "x"], ["x"]),
    ([{"a": None}], [{"a": None}]),
    ([{"a": None}, {}], [{"a": None}]),
    ([{"a": {}}], [{"a": {}}]),
    ([{"a": {"b": None}}], [{"a": {"b": None}}]),
    ([{"b": [1], "a": {"c": ["x", None], "b": {}}}], [{"a": {"b": {}, "c": ["x", None]}, "b": [1]}]),
    ([{"a": 1}, {"a": 2}, {"b": {}}], [{"a": 2, "b": {}}]),
    ([{"a": 1}, {"b": 2}, {"a": None}], [{"a": None, "b": 2}]),
    ([{"a": {"b": 1}}, {"a": {"c": {"d": None}}}], [{"a": {"b": 1, "c": {"d": None}}}]),
    ([{"a": None}, {"a": {"b": 1}}, {"a": [2]}], [{"a": [2]}]),
    ([{"a": None}, {"a": {"b": 1}}, 7], [7]),
    ([nested(8)], [nested(8)]),
    ([nested(8, 1), nested(7, {"a": [2]})], [nested(7, {"a": [2], "k": 1})]),
    ([wide(200)], [wide(200)]),
    ([{}] * 200, [{}]),
    (list(range(200)), [199]),
    # Two patches, the first of which is None.
    ([None, {}], [None, {}]),
    ([5, {}], [None, {}]),
    ([5, {"a": 1}], [None, {"a": 1}]),
    ([{"a": 1}, [2], {"a": [1], "b": None}], [None, {"a": [1]}]),
    ([5, {"a": None}], [None, {}]),
    ([5, {"a": {"b": {"c": None}}}], [None, {"a": {"b": {}}}]),
    ([5, {"a": 1}, {"a": {"b": [2]}}, {"c": {}}], [None, {"a": {"b": [2]}, "c": {}}]),
    ([0, nested(8)], [None, nested(7, {})]),
    ([0, nested(8, 1)], [None, nested(8, 1)]),
    ([0, wide(199)], [None, wide(199)]),
    # Two patches, the first of which is an object.
    ([{"a": None}, {"a": {}}], [{"a": None}, {"a": {}}]),
    ([{"a": 1}, {"a": {}}], [{"a": None}, {"a": {}}]),
    ([{"a": 1}, {"a": {"b": None}}], [{"a": None}, {"a": {}}]),
    ([{"a": None, "b": 1}, {"a": {"c": 3}}, {"d": None}], [{"a": None}, {"a": {"c": 3}, "b": 1, "d": None}]),
    ([{"a": 5, "b": {"c": 6, "d": 7}}, {"b": {"c": {"e": 8}, "f": None}}],
     [{"b": {"c": None}}, {"a": 5, "b": {"c": {"e": 8}, "d": 7, "f": None}}]),
    ([{"a": 1, "b": {"c": 2}, "d": {"e": 3}}, {"a": {"f": 4}, "b": {"c": {"g": [5]}}}],
     [{"a": None, "b": {"c": None}}, {"a": {"f": 4}, "b": {"c": {"g": [5]}}, "d": {"e": 3}}]),
    ([{"a": {"b": 1, "c": {"d": 2}}}, {"a": {"b": {}, "c": {"d": {}}}, "e": {}}],
     [{"a": {"b": None, "c": {"d": None}}}, {"a": {"b": {}, "c": {"d": {}}}, "e": {}}]),
    # A build inside another one.
    ([{"a": None}, {"a": {"b": 1}}, {"a": {"b": {"c": {}}}}], [{"a": None}, {"a": {"b": {"c": {}}}}]),
    ([{"a": 1}, {"a": {"b": {"c": {"d": 1}}, "e": {}}}], [{"a": None}, {"a": {"b": {"c": {"d": 1}}, "e": {}}}]),
    # A build, and then something else.
    ([{"a": None}, {"a": {"b": 1}}, {"a": {"b": None}}], [{"a": None}, {"a": {}}]),
    ([{"a": None, "b": 1}, {"a": {"b": 1}, "b": {}}, {"a": None}], [{"b": None}, {"a": None, "b": {}}]),
    ([nested(7, 1), nested(8)], [nested(7), nested(7, {})]),
    ([nested(7), nested(8, 2)], [nested(7), nested(8, 2)]),
    ([{str(place): None for place in range(99)}, {str(place): {} for place in range(99)}],
     [{str(place): None for place in range(99)}, {str(place): {} for place in range(99)}]),
)


def has_build(one):
    return one.kind == "build" or any(has_build(member) for _, member in one.members)


class Compact(unittest.TestCase):

    def test_rows(self):
        for row, expected in COMPACTED:
            with self.subTest(row=row):
                for given in (row, tuple(row)):
                    patches = compact(given)
                    self.assertIsInstance(patches, list)
                    self.assertEqual(patches, expected)

    def test_it_has_the_same_effect_with_as_few_patches_as_possible(self):
        for row in ROWS + random_rows(1000, 5, 4):
            one = effect(row)
            patches = compact(row)
            self.assertEqual(effect(patches), one)
            self.assertEqual(len(patches), 0 if one.kind == "keep" else 2 if has_build(one) else 1, row)

    def test_it_does_the_same(self):
        for row in ROWS:
            self.assertEqual(doing(compact(row)), doing(row), row)

    def test_one_patch_is_enough_exactly_if_one_does_the_same(self):
        singles = {doing([patch]) for patch in MANY + FEW}
        for row in ROWS:
            if doing(row) in singles:
                self.assertEqual(len(compact(row)), 1, row)
            elif len(compact(row)) == 1:
                self.assertEqual(doing(compact(row)), doing(row), row)

    def test_rows_that_do_the_same_have_the_same_patches(self):
        found = {}
        for row in ROWS:
            patches = compact(row)
            self.assertEqual(found.setdefault(doing(row), patches), patches)

    def test_compacted_patches_stay_as_they_are(self):
        for row in ROWS + random_rows(500, 4, 4):
            patches = compact(row)
            self.assertEqual(compact(patches), patches)
        for row in [[one] for one in MANY]:
            self.assertEqual(compact(row), row)

    def test_parts(self):
        for row in ROWS + random_rows(3000, 6, 4) + [row for row, _ in COMPACTED]:
            patches = compact(row)
            self.assertLessEqual(sum(map(many_parts, patches)), sum(map(many_parts, row)), row)

    def test_the_first_of_two_patches_has_nothing_but_what_it_deletes(self):
        def only_deletes(patch):
            if isinstance(patch, dict):
                return patch != {} and all(map(only_deletes, patch.values()))
            return patch is None

        for row in ROWS + random_rows(1000, 5, 4):
            patches = compact(row)
            if len(patches) == 2:
                self.assertTrue(only_deletes(patches[0]), row)


class Latest(unittest.TestCase):

    def test_rows(self):
        for row, expected in (
                ([], []), ([5], [5]), ([None], [None]), ([{}], [{}]), ([None, None], [None]), ([{}, {}], [{}]),
                ([{}, None], [{}, None]), ([[], {}, None, "", 0], [[], {}, None, "", 0]),
                ([1, "1", [1], ["1"], [1, 1]], [1, "1", [1], ["1"], [1, 1]]),
                ([{"a": 1}, {"a": 2}, {"a": 1}], [{"a": 2}, {"a": 1}]),
                ([1, 2, 1, 2, 3, 1], [2, 3, 1]),
                ([1, 1, 1, 2, 2, 2], [1, 2]),
                ([[1, None], 5, [1, None]], [5, [1, None]]),
                ([[1, 2], [2, 1], [1, 2]], [[2, 1], [1, 2]]),
                ([{"a": {"b": None}}, {"a": {}}, {"a": {"b": None}}], [{"a": {}}, {"a": {"b": None}}]),
                ([{"a": 1, "b": 2}, 5, {"b": 2, "a": 1}], [5, {"b": 2, "a": 1}]),
                ([{"a": None}, {}, {"a": None}, {}], [{"a": None}, {}]),
                ([nested(8), nested(7), nested(8, 1), nested(8)], [nested(7), nested(8, 1), nested(8)]),
                ([7] * 200, [7]), ([{}] * 200, [{}]), (list(range(200)), list(range(200))),
                (list(range(100)) * 2, list(range(100)))):
            with self.subTest(row=row):
                for given in (row, tuple(row)):
                    self.assertIsInstance(latest(given), list)
                    self.assertEqual(latest(given), expected)

    def test_what_does_nothing_stays_if_it_does_not_come_again(self):
        self.assertEqual(latest([{"a": 1}, {"a": 2}, {}, 7, 8]), [{"a": 1}, {"a": 2}, {}, 7, 8])

    def test_it_has_the_same_effect(self):
        for row in ROWS + random_rows(1000, 8, 3):
            self.assertEqual(effect(latest(row)), effect(row), row)

    def test_each_patch_is_there_once_in_the_order_of_the_last_ones(self):
        for row in random_rows(1000, 8, 1):
            patches = latest(row)
            places = [max(place for place, one in enumerate(row) if one == patch) for patch in patches]
            self.assertEqual(places, sorted(set(places)))
            self.assertTrue(all(patch in patches for patch in row))
            self.assertTrue(all(patches.count(patch) == 1 for patch in patches))


class Needless(unittest.TestCase):

    def test_rows(self):
        for row, expected in (
                ([], []), ([5], []), ([None], []), ([{}], []), ([{"a": None}], []),
                ([{}, {}], [0, 1]), ([5, 5], [0, 1]), ([None, None], [0, 1]), ([5, 6], [0]), ([[1], [1]], [0, 1]),
                ([{"a": 1}, {"a": 2}, {"a": 1}], [0, 1]),
                ([{}, {"a": 1}], [0]), ([{"a": 1}, {}], [1]), ([5, {}], []), ([{}, 5], [0]), ([5, 6, {}], [0, 1]),
                ([5, 6, {"a": 1}, {}], [0, 1, 3]), ([None, {}, {}], [1, 2]),
                ([{"a": 1}, {"a": {}}], []), ([{"a": 1}, {"a": {}}, {"a": {}}], [1, 2]),
                ([{"a": 1}, {"a": None}, {"a": {}}], [0, 1]),
                ([{"a": 1, "b": 1}, {"b": 2}, {"a": 2}], [0]),
                ([{"a": 1, "b": 1}, {"b": 2}, {"c": 2}], []),
                ([{"a": {"b": 1}}, {"a": {"b": 2, "c": 3}}, {"a": {"c": 3}}], [0, 2]),
                ([nested(8), nested(8, 1), nested(8)], [0, 1]), ([nested(8, 1), nested(7)], [0]),
                ([nested(8), nested(7, {})], [1]),
                ([wide(200)], []), ([wide(100), wide(100)], [0, 1]),
                ([{}] * 200, list(range(200))), ([7] * 200, list(range(200))),
                (list(range(200)), list(range(199)))):
            with self.subTest(row=row):
                for given in (row, tuple(row)):
                    self.assertIsInstance(needless(given), list)
                    self.assertEqual(needless(given), expected)

    def test_each_left_out_alone(self):
        for row in ROWS:
            did = doing(row)
            places = [place for place in range(len(row)) if doing(row[:place] + row[place + 1:]) == did]
            self.assertEqual(needless(row), places, row)
        for row in random_rows(500, 6, 3):
            one = effect(row)
            places = [place for place in range(len(row)) if effect(row[:place] + row[place + 1:]) == one]
            self.assertEqual(needless(row), places, row)


class Core(unittest.TestCase):

    def test_rows(self):
        for row, expected in (
                ([], []), ([5], [5]), ([None], [None]), ([{}], [{}]), ([{"a": None}], [{"a": None}]),
                ([{}, {}], [{}]), ([5, 5], [5]), ([5, 6], [6]), ([[1], [1, 2]], [[1, 2]]),
                ([{"a": 1}, {"a": 2}, {"a": 1}], [{"a": 1}]),
                ([{}, {"a": 1}], [{"a": 1}]), ([{"a": 1}, {}], [{"a": 1}]), ([5, {}], [5, {}]),
                # Each of the first two is needless alone, but not both.
                ([5, 6, {"a": 1}, {}], [6, {"a": 1}]), ([None, {}, {}], [None, {}]),
                ([{"a": 1}, {"a": None}, {"a": {}}], [{"a": None}, {"a": {}}]),
                ([{"a": 1}, {"a": {}}, {"a": {}}], [{"a": 1}, {"a": {}}]),
                ([{"a": 1, "b": 1}, {"b": 1}, {"a": 1}], [{"b": 1}, {"a": 1}]),
                ([{"b": 1}, {"a": 1}, {"a": 1, "b": 1}], [{"a": 1, "b": 1}]),
                ([{"a": 1, "b": 1}, {"b": 2}, {"c": 2}], [{"a": 1, "b": 1}, {"b": 2}, {"c": 2}]),
                ([nested(8), nested(8, 1), nested(8)], [nested(8)]),
                ([nested(8), nested(7, {})], [nested(8)]),
                ([wide(200)], [wide(200)]), ([wide(100), wide(100)], [wide(100)]),
                ([{}] * 200, [{}]), ([7] * 200, [7]), (list(range(200)), [199])):
            with self.subTest(row=row):
                for given in (row, tuple(row)):
                    self.assertIsInstance(core(given), list)
                    self.assertEqual(core(given), expected)

    def test_one_place_after_the_other(self):
        for row in ROWS:
            did = doing(row)
            left = list(range(len(row)))
            for place in range(len(row)):
                fewer = [one for one in left if one != place]
                if doing([row[one] for one in fewer]) == did:
                    left = fewer
            self.assertEqual(core(row), [row[one] for one in left], row)

    def test_it_has_the_same_effect_and_nothing_needless(self):
        for row in random_rows(1000, 8, 3):
            left = core(row)
            self.assertEqual(effect(left), effect(row), row)
            self.assertEqual(needless(left), [], row)
            self.assertEqual(core(left), left)


class Writers(unittest.TestCase):

    def test_rows(self):
        for row, expected in (
                ([], []), ([{}], []), ([{"a": {"b": {}}}], []), ([None, {}], []), ([5, {"a": {}}], []),
                ([5], [((), 0)]), ([None], [((), 0)]), ([[1]], [((), 0)]), ([{}, 5], [((), 1)]), ([5, 6], [((), 1)]),
                ([5, 6, 5], [((), 2)]), ([{"a": 1}, {}, 5], [((), 2)]),
                ([{"a": None}], [(("a",), 0)]), ([{"a": []}], [(("a",), 0)]), ([{"": 1}], [(("",), 0)]),
                ([{"a": 1}, {"a": 1}], [(("a",), 1)]), ([{"a": 1}, {}], [(("a",), 0)]),
                ([{"a": 1}, {"a": None}, {"b": 3}], [(("a",), 1), (("b",), 2)]),
                ([{"a": 1, "b": 1}, {"b": None}, {"c": {"d": 2}}], [(("a",), 0), (("b",), 1), (("c", "d"), 2)]),
                ([{"a": 1}, {"a": {}}], []),
                ([{"a": 1}, {"a": {"b": 1}}, {"c": 1}], [(("a", "b"), 1), (("c",), 2)]),
                ([5, {"a": 1}], [(("a",), 1)]), ([5, {"a": None}], []),
                ([5, {"a": {"b": 1, "c": None}}, {"a": {"b": 2}}], [(("a", "b"), 2)]),
                ([{"a": {"b": 1, "c": 2}}, {"a": {"c": 3}}, {"a": {"d": None}}],
                 [(("a", "b"), 0), (("a", "c"), 1), (("a", "d"), 2)]),
                ([{"a": {"b": 1}}, {"a": 5}], [(("a",), 1)]),
                ([{"a": {"b": 1}}, {"a": None}, {"a": {"b": 2}}, {"a": {}}, {"b": 0}],
                 [(("a", "b"), 2), (("b",), 4)]),
                ([{"b": {"a": 1}, "a": 1}, {"a ": 1, "B": 1, "aa": {"z": 1, "": None}}],
                 [(("B",), 1), (("a",), 0), (("a ",), 1), (("aa", ""), 1), (("aa", "z"), 1), (("b", "a"), 0)]),
                ([{"10": 1}, {"9": 1}], [(("10",), 0), (("9",), 1)]),
                ([nested(8, 1), nested(8), nested(7, {})], [(("k",) * 8, 1)]),
                ([nested(8), nested(7, 2)], [(("k",) * 7, 1)]),
                (list(range(200)), [((), 199)]), ([{"a": None}] * 100, [(("a",), 99)]),
                ([wide(200)], sorted(((key,), 0) for key in wide(200)))):
            with self.subTest(row=row):
                for given in (row, tuple(row)):
                    found = writers(given)
                    self.assertIsInstance(found, list)
                    self.assertEqual(found, expected)
                    self.assertTrue(all(isinstance(pair, tuple) and isinstance(pair[0], tuple) for pair in found))

    def test_paths_and_places(self):
        def paths(one):
            here = [()] if one.kind in ("set", "drop") else []
            return here + [(key,) + path for key, member in one.members for path in paths(member)]

        def all_paths(patch):
            inside = patch.items() if isinstance(patch, dict) else ()
            return [()] + [(key,) + path for key, part in inside for path in all_paths(part)]

        for row in ROWS + random_rows(1000, 6, 4):
            last = {path: place for place, patch in enumerate(row) for path in all_paths(patch)}
            self.assertEqual(writers(row), [(path, last[path]) for path in sorted(paths(effect(row)))], row)


class Time(unittest.TestCase):

    def test_rows_of_many_patches(self):
        rows = (list(range(200)), [7] * 200, [None, {}] * 100, [{str(place): 1} for place in range(100)],
                [{"k": {str(place): 1}} for place in range(66)])
        for row in rows:
            for call in (needless, core, compact, latest, writers):
                begin = time.perf_counter()
                call(row)
                self.assertLess(time.perf_counter() - begin, 10)


if __name__ == "__main__":
    unittest.main()
