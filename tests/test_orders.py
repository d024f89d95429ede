"""Orders: point [10]."""

import itertools
import json
import time
import unittest

from support import FEW, MANY, Refusing, doing, merge_row, nested, random_rows, wide
from twopatches.effects import Effect, effect
from twopatches.errors import BadCount
from twopatches.orders import commute, outcomes, route

# Six patches of which each two set a common key: each order has an effect of its own.
PAIRED = [{f"p{min(one, other)}{max(one, other)}": one for other in range(6) if other != one} for one in range(6)]

# Up to six patches, with atoms and patches that come again.
SOME = (
    [], [5], [{}], [None], [{}, {}], [{}, {}, {}], [None, {}], [5, {}, 5], [1, 2, 3], [{"a": 1}, {"b": 2}, {"a": 3}],
    [{"a": 1}, {"a": 1}, {"b": 1}], [{"a": 1}, {"a": None}, {"a": {}}], [{"a": None}, {"a": {"b": 1}}],
    [{"a": {"b": 1}}, {"a": {"b": 2}}, {"a": 3}, {}], [None, {"a": 1}, {"b": {"a": None}}, {"b": {}}],
    [{"a": [1]}, {"a": ["x"]}, {"a": "x"}, {"a": 1}], [{"a": {"b": None}}, {"a": {"b": {}}}, {"b": 1}, {"b": 1}],
    [1, {"a": 1}, {"a": 2}, {"b": {}}, {"b": 1}],
)


def first_orders(patches):
    """The smallest order of patches for each different thing that they do, ascending."""
    found = {}
    for order in itertools.permutations(range(len(patches))):
        found.setdefault(doing([patches[place] for place in order]), order)
    return list(found.values())


def shown(document):
    """A string that is the same for equal documents."""
    return json.dumps(document, sort_keys=True)


class Commute(unittest.TestCase):

    def test_patches(self):
        for one, other, expected in (
                (5, 5, True), (None, None, True), ({}, {}, True), ([1], [1], True), (5, 6, False), (None, 0, False),
                ([], None, False), ([1], ["1"], False), (5, {}, False), (None, {}, False), ({}, {"a": 1}, True),
                ({"a": 1}, {"b": None}, True), ({"a": 1}, {"a": {"b": 2}}, False), ({"a": 1}, {"a": 1}, True),
                ({"a": 1}, {"a": 2}, False), ({"a": None}, {"a": None}, True), ({"a": None}, {"a": {}}, False),
                ({"a": None}, {"a": {"b": None}}, False), ({"a": {"b": 1}}, {"a": {"c": 2}}, True),
                ({"a": {"b": 1}}, {"a": {"b": 1, "c": {}}, "b": 1}, True), ({"a": {"b": 1}}, {"a": {"b": 2}}, False),
                ({"a": {"b": {}}}, {"a": {"b": {"c": None}}}, True), ({"a": {"b": None}}, {"a": {}}, True),
                (nested(8), nested(8), True), (nested(8), nested(7, {}), True), (nested(8), nested(8, 1), False),
                (nested(8), nested(7, {"a": 1}), True), (nested(7), nested(8), False)):
            with self.subTest(one=one, other=other):
                self.assertIs(commute(one, other), expected)
                self.assertIs(commute(other, one), expected)

    def test_each_two_patches(self):
        for one, other in itertools.product(MANY, repeat=2):
            self.assertIs(commute(one, other), doing([one, other]) == doing([other, one]), (one, other))

    def test_each_is_checked_alone(self):
        self.assertIs(commute(wide(200), wide(200)), True)
        self.assertIs(commute(wide(200), {"a" + key: 1 for key in wide(200)}), True)
        self.assertIs(commute(wide(200), {**wide(199), "z": 1}), True)
        self.assertIs(commute(wide(200), {**wide(199), "k198": 1}), False)


class TooMany(Refusing):

    def refused_count(self, count, call, *given):
        with self.assertRaises(BadCount) as raised:
            call(*given)
        self.assertEqual((raised.exception.what, raised.exception.count), ("patches", count))

    def test_more_than_six_patches(self):
        for count in (7, 8, 20, 200):
            for patches in ([{}] * count, (5,) * count, list(range(count))):
                self.refused_count(count, outcomes, patches)
                self.refused_count(count, route, patches, {}, {})

    def test_up_to_six_patches(self):
        for count in range(7):
            self.assertEqual(outcomes([{}] * count), [(tuple(range(count)), effect([{}][:count]))])
            self.assertEqual(route([{}] * count, {}, {}), ())

    def test_before_anything_is_checked(self):
        for patches in ([True] * 7, [{}] * 6 + [1.5], [nested(9)] * 7, [wide(201)] * 7, [wide(200)] * 7, [{}] * 201):
            self.refused_count(len(patches), outcomes, patches)
            for document in ({}, True, nested(9), wide(201)):
                self.refused_count(len(patches), route, patches, document, {})
                self.refused_count(len(patches), route, patches, {}, document)

    def test_six_patches_are_checked_as_a_row(self):
        for call in (outcomes, lambda patches: route(patches, True, True)):
            self.refused(("a",), call, [{}] * 5 + [{"a": 1.5}])
            self.large("depth", call, [{}] * 4 + [nested(9), True])
            self.large("parts", call, [wide(201)] + [True] * 5)
            self.large("row", call, [wide(34)] * 5 + [wide(31)])
        outcomes([wide(34)] * 5 + [wide(30)])
        route([wide(34)] * 5 + [wide(30)], {}, 1)


class Outcomes(unittest.TestCase):

    def look(self, patches, orders):
        """Look whether the outcomes of patches have just these orders, each with its effect."""
        for given in (patches, tuple(patches)):
            found = outcomes(given)
            self.assertIsInstance(found, list)
            self.assertEqual([pair.__class__ for pair in found], [tuple] * len(found))
            self.assertEqual([pair[0] for pair in found], orders, patches)
            for order, one in found:
                self.assertIs(order.__class__, tuple)
                self.assertIs(one.__class__, Effect)
                self.assertEqual(one, effect([patches[place] for place in order]))

    def test_patches(self):
        self.look([], [()])
        self.look([5], [(0,)])
        self.look([{}, {}], [(0, 1)])
        self.look([5, 6], [(0, 1), (1, 0)])
        self.look([5, {}], [(0, 1), (1, 0)])
        self.look([{"a": 1}, {"b": 2}], [(0, 1)])
        self.look([{"a": 1}, {"b": 2}, {"a": 3}], [(0, 1, 2), (1, 2, 0)])
        self.look([1, 2, 3], [(0, 1, 2), (0, 2, 1), (1, 2, 0)])
        self.look([7, 7, 8], [(0, 1, 2), (0, 2, 1)])
        self.look([{"a": None}, {"a": {}}, {"b": 1}], [(0, 1, 2), (1, 0, 2)])
        self.look([nested(8), nested(8, 1), nested(8)], [(0, 1, 2), (0, 2, 1)])
        self.look([nested(7), nested(8), {}], [(0, 1, 2), (1, 0, 2)])

    def test_each_order(self):
        for patches in SOME + tuple([one, other] for one in FEW for other in FEW):
            self.look(patches, first_orders(patches))

    def test_patches_at_random(self):
        for patches in random_rows(300, 4, 3):
            different = []
            for order in itertools.permutations(range(len(patches))):
                one = effect([patches[place] for place in order])
                if one not in [other for _, other in different]:
                    different.append((order, one))
            self.assertEqual(outcomes(patches), different)

    def test_effects_that_are_easily_mixed_up(self):
        for atom, other in itertools.combinations(
                (None, 0, 1, "", "0", "1", [], [0], ["0"], [""], [None], "drop", "set", "keep", ["set", None], {}), 2):
            self.look([{"a": atom}, {"a": other}], [(0, 1), (1, 0)])
            self.look([{"a": {"b": atom}}, {"a": {"b": other}}], [(0, 1), (1, 0)])
        self.look([5, {"a": {}, "b": {}}, {"a": {"b": {}}}, {"b": None}],
                  first_orders([5, {"a": {}, "b": {}}, {"a": {"b": {}}}, {"b": None}]))

    def test_six_patches_with_an_effect_for_each_order(self):
        self.look(PAIRED, list(itertools.permutations(range(6))))

    def test_six_patches_that_come_again(self):
        self.look([{"a": 1}, {"a": 2}] * 3, [(0, 1, 2, 3, 4, 5), (0, 1, 2, 3, 5, 4)])
        self.look([5, {}, {"a": 1}, 5, {}, {"a": 1}], first_orders([5, {}, {"a": 1}, 5, {}, {"a": 1}]))


class Route(unittest.TestCase):

    def look(self, patches, before, after, expected):
        found = route(patches, before, after)
        self.assertEqual(found, expected, (patches, before, after))
        self.assertIs(found.__class__, expected.__class__)
        self.assertEqual(route(tuple(patches), before, after), expected)

    def test_no_patch_is_needed(self):
        for document in (None, 5, "", [1, None], {}, {"a": None}, {"a": {"b": [1]}}, nested(8), wide(200)):
            for patches in ([], [document], [5], [{}], [{"a": 1}, {"a": None}], PAIRED):
                self.look(patches, document, document, ())

    def test_without_patches(self):
        self.look([], 1, 2, None)
        self.look([], {}, None, None)
        self.look([], None, {}, None)
        self.look([], {}, {"a": None}, None)
        self.look([], [1], ["1"], None)

    def test_patches(self):
        clear_and_set = [{"a": None}, {"a": {"b": 1}}]
        self.look(clear_and_set, {"a": {"c": 2}}, {"a": {"b": 1}}, (0, 1))
        self.look(clear_and_set, {}, {"a": 1}, None)
        self.look(clear_and_set, {}, {"a": {"b": 1}}, (1,))
        self.look(clear_and_set, {"a": None}, {}, (0,))
        self.look(clear_and_set, 5, {}, (0,))
        self.look(clear_and_set[::-1], {"a": {"c": 2}}, {"a": {"b": 1}}, (1, 0))
        self.look([{"a": 1}, None, {}], {"b": 1}, {"a": 1}, (1, 0))
        self.look([{"a": 1}, None, {}], {"b": 1}, {}, (1, 2))
        self.look([5, 6], None, 6, (1,))
        self.look([nested(7), nested(8, 1)], nested(7, {"a": 1}), nested(8, 1), (0, 1))
        self.look([nested(7), nested(8, 1)], nested(7, {"a": 1}), nested(7, {"a": 1, "k": 1}), (1,))
        self.look([{}, {"a": None}], {"a": 1}, {"a": None}, None)

    def test_the_shortest(self):
        self.look([{"a": 1}, {"b": 2}, {"a": 1, "b": 2}], {}, {"a": 1, "b": 2}, (2,))
        self.look([{"a": 1}, {"b": 2}, {"c": 3}, {"b": 2, "c": 3}], {}, {"a": 1, "b": 2, "c": 3}, (0, 3))

    def test_the_smallest_of_the_shortest(self):
        self.look([{"b": 2}, {"a": 1}], {}, {"a": 1, "b": 2}, (0, 1))
        self.look([7, {"a": 1}, {"a": 1}, 7, {"b": 2}, {"b": 2}], 0, {"a": 1, "b": 2}, (1, 4))
        self.look([7, {"a": 1}, {"a": 1}, 7, {"b": 2}, {"b": 2}], {"c": 3}, {"a": 1, "b": 2}, (0, 1, 4))
        self.look([{"a": 2}, {"b": 2}, {"a": 1}, {"b": 2}], {}, {"a": 1, "b": 2}, (1, 2))
        self.look([5, 5], 0, 5, (0,))

    def test_each_row_of_some_patches(self):
        for patches in SOME:
            for before in FEW:
                expected = {}
                for many in range(len(patches) + 1):
                    for order in itertools.permutations(range(len(patches)), many):
                        after = merge_row(before, [patches[place] for place in order])
                        expected.setdefault(shown(after), (after, order))
                for after, order in expected.values():
                    self.look(patches, before, after, order)
                for after in MANY:
                    if shown(after) not in expected:
                        self.look(patches, before, after, None)

    def test_with_repetitions(self):
        patches = [{"a": 1}, {"a": {"b": 2}}, {"a": None}, 5]
        for row in itertools.product(range(4), repeat=5):
            after = merge_row({"a": {"c": 3}}, [patches[place] for place in row])
            found = route(patches, {"a": {"c": 3}}, after)
            self.assertEqual(len(found), len(set(found)))
            self.assertEqual(merge_row({"a": {"c": 3}}, [patches[place] for place in found]), after)

    def test_six_patches(self):
        patches = [{**patch, f"own{place}": 1} for place, patch in enumerate(PAIRED)]
        for order in ((0, 1, 2, 3, 4, 5), (5, 4, 3, 2, 1, 0), (2, 0, 5, 1, 4, 3), (3, 1), (5, 0, 2, 4)):
            after = merge_row({"x": 1}, [patches[place] for place in order])
            self.look(patches, {"x": 1}, after, order)
            self.look(patches, {"x": 1}, {**after, "x": 2}, None)

    def test_what_is_on_the_way_may_be_large(self):
        more = {"z" + key: 1 for key in wide(99)}
        gone = {key: None for key in more}
        after = {**wide(200), "z": 1}
        del after["k0"]
        self.look([{**more, "z": 1}, {**gone, "k0": None}], wide(200), after, (0, 1))
        self.look([{**more, "z": 1}, {**gone, "k0": None}], wide(200), {}, None)


class Time(unittest.TestCase):

    def test_six_patches_of_many_parts(self):
        same_ones = {f"k{place:02}": 0 for place in range(27)}
        rows = ([{**same_ones, **patch} for patch in PAIRED],
                [{**{f"{key}{place}": 0 for key in same_ones}, **patch} for place, patch in enumerate(PAIRED)],
                [nested(2, {**same_ones, **patch}) for patch in [{key: number for key in "ab"} for number in range(6)]],
                [{key: patch} for key, patch in zip("aabbcc", [None, nested(7)] * 3)])
        for patches in rows:
            for call in (lambda: outcomes(patches), lambda: route(patches, wide(200), {"none": 1})):
                begin = time.perf_counter()
                call()
                self.assertLess(time.perf_counter() - begin, 10)


if __name__ == "__main__":
    unittest.main()
