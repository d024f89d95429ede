"""Needless patches and cores of long and of deep rows: answers as by leaving out patches, and soon: point [9]."""

import random
import time
import unittest

from support import levels, many_parts
from twopatches.compacting import core, needless
from twopatches.effects import effect

# Documents of which the rows below consist: atoms and empty objects, of several kinds and few.
FLAT = ([0, 1, 2], [None, {}], [{}], [7], [None, {}, {}, 5], [[], [1], ["1"], {}, 0, None], [{}, {}, {}, {}, "a"])


def flat_rows(many, most_patches):
    """So many rows of so many atoms and empty objects, the same ones each time."""
    chance = random.Random(8)
    return [[chance.choice(parts) for _ in range(most_patches)] for place in range(many)
            for parts in [FLAT[place % len(FLAT)]]]


def dense_document(chance, most, keys, atoms):
    """A document of at most so many levels with these keys and atoms."""
    if most == 0 or chance.random() < 0.3:
        return chance.choice(atoms)
    return {key: dense_document(chance, most - 1, keys, atoms)
            for key in chance.sample(keys, chance.randint(0, len(keys)))}


def deep_rows(many, most_patches):
    """So many rows of at most so many patches of depth 3 with few keys and atoms, the same ones each time."""
    chance = random.Random(9)
    rows = []
    for place in range(many):
        keys = ["a", "b", "c"][:1 + place % 3]
        atoms = [[None], [None, 1], [None, None, 1, 2], [0, [0]]][place % 4]
        row = [dense_document(chance, 3, keys, atoms) for _ in range(chance.randint(0, most_patches))]
        while sum(map(many_parts, row)) > 200:
            row.pop()
        rows.append(row)
    return rows


def needless_alone(row):
    """What needless returns, found by leaving out one patch after the other."""
    one = effect(row)
    return [place for place in range(len(row)) if effect(row[:place] + row[place + 1:]) == one]


def core_in_turn(row):
    """What core returns, found by leaving out one patch after the other."""
    one = effect(row)
    left = []
    for place, patch in enumerate(row):
        if effect(left + row[place + 1:]) != one:
            left.append(patch)
    return left


ANSWERS = ((needless, needless_alone), (core, core_in_turn))


class Answers(unittest.TestCase):

    def same_answers(self, rows):
        for call, slow in ANSWERS:
            for row in rows:
                self.assertEqual(call(row), slow(row), (call, row))

    def test_rows_of_200_atoms_and_empty_objects(self):
        self.same_answers(flat_rows(14, 200))

    def test_shorter_rows_of_atoms_and_empty_objects(self):
        self.same_answers(flat_rows(700, 12))

    def test_rows_of_few_patches_of_depth_3(self):
        self.same_answers(deep_rows(1500, 5))

    def test_rows_of_many_patches_of_depth_3(self):
        rows = deep_rows(160, 40)
        self.assertTrue(any(len(row) > 25 and max(map(levels, row)) == 3 for row in rows))
        self.same_answers(rows)

    def test_an_atom_between_objects(self):
        for row in (
                # Without it, an earlier atom does the same.
                [{"a": 5}, {"a": 6}, {"a": {"b": 1}}],
                # An earlier object shows again, or is hidden by the later one.
                [{"a": 5}, {"a": {"b": 1}}, {"a": 6}, {"a": {"b": 1}}],
                [{"a": 5}, {"a": {"c": 1}}, {"a": 6}, {"a": {"b": 1}}],
                [{"a": 5}, {"a": {"b": 2}}, {"a": 6}, {"a": {"b": {}}}],
                [{"a": 5}, {"a": {"b": {"c": 1}}}, {"a": 6}, {"a": {"b": {}}}],
                [{"a": 5}, {"a": {"b": {"c": 1}}}, {"a": 6}, {"a": {"b": {"c": {}}}}],
                [{"a": 5}, {"a": {"b": {"c": {}}}}, {"a": 6}, {"a": {"b": {"c": {}}}}],
                [{"a": 5}, {"a": {"b": {"c": 1}}}, {"a": 6}, {"a": {"b": None}}],
                [{"a": 5}, {"a": {"b": None}}, {"a": 6}, {"a": {}}],
                # Nothing at all comes before it.
                [{"a": {"b": 1}}, {"a": 6}, {"a": {"b": 1}}],
                [{}, {"a": 6}, {"a": {"b": 1}}],
                # What is deleted within an atom that has become an object is not there anyway.
                [5, {"a": None}, {"b": {"c": None}}, {"a": {"b": None}}, {"a": None}]):
            with self.subTest(row=row):
                self.same_answers([row])

    def test_an_object_among_others(self):
        self.assertEqual(needless([{"a": 5}, {"a": {"b": 1}}, {"a": 6}, {"a": {"b": 1}}]), [0, 1, 2])
        self.assertEqual(needless([{"a": 5}, {"a": {"c": 1}}, {"a": 6}, {"a": {"b": 1}}]), [0, 1])
        self.assertEqual(needless([{"a": {"b": {}}}, {"a": {}}, {"a": {"b": {"c": 1}}}, {}]), [0, 1, 3])
        self.assertEqual(core([{"a": {"b": {}}}, {"a": {}}, {"a": {"b": {"c": 1}}}, {}]), [{"a": {"b": {"c": 1}}}])

    def test_what_is_left_out_makes_others_count(self):
        # Without the third patch, the second one does what the fourth one does.
        row = [{"a": 5, "x": 1}, {"a": {"b": 1}, "y": 1}, {"a": 6}, {"a": {"b": 1}}]
        self.assertEqual(core(row), row[:2])
        # The third patch stays, and what was before it does not count.
        row = [{"a": 5, "x": 1}, {"a": {"b": 1}, "y": 1}, {"a": 6, "z": 1}, {"a": {"b": 1}}]
        self.assertEqual(core(row), row)
        # Each of the first two is needless alone, but not both.
        self.assertEqual(core([5, 6, {"a": 1}, {}]), [6, {"a": 1}])


class Time(unittest.TestCase):

    def soon(self, call, rows):
        begin = time.perf_counter()
        for row in rows:
            call(row)
        self.assertLess(time.perf_counter() - begin, 2, call)

    def test_five_hundred_rows_of_200_patches(self):
        rows = [[number % 3 for number in range(200)], list(range(200))] * 10 + flat_rows(480, 200)
        for call, _ in ANSWERS:
            self.soon(call, rows)

    def test_patches_of_depth_3_again_and_again(self):
        rows = [[{"a": {"b": {str(place % 7): place}}} for place in range(30)],
                [{"a": {"b": {"c": place}}} if place % 2 else {"a": None} for place in range(30)],
                [{"a": {str(place % 5): {}}, "b": {"c": {str(place): None}}} for place in range(30)]]
        for call, _ in ANSWERS:
            self.soon(call, rows * 170)


if __name__ == "__main__":
    unittest.main()
