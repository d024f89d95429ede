"""Likeness: point [7]."""

import itertools
import random
import unittest

from support import CHAINS, FEW, MANY, doing, levels, merge_row, nested, random_document, random_rows, wide
from twopatches.documents import check
from twopatches.likeness import is_parting, parting, same

ROWS = [[]] + [[one] for one in MANY] + [[one, other] for one in FEW for other in FEW]

# Pairs of rows that do different things, for which only a few documents show it.
APART = (
    ([], [{}]),
    ([], [None]),
    ([], [0]),
    ([], [1]),
    ([], [-1]),
    ([], [2]),
    ([], [""]),
    ([], [[]]),
    ([], [None, {}]),
    ([0], [1]),
    ([1], [0]),
    ([None], [0]),
    ([0], [[0]]),
    ([[1]], [["1"]]),
    ([None], [{}]),
    ([5], [{}]),
    ([{}], [None, {}]),
    ([{}], [0, {}]),
    ([{}], [{"a": None}]),
    ([{}], [{"a": {}}]),
    ([{}], [{"a": 0}]),
    ([{}], [{"a": -1}]),
    ([{"a": None}], [{"a": 0}]),
    ([{"a": None}], [{"b": None}]),
    ([{"a": 0}], [{"a": 0, "b": 0}]),
    ([{"a": 0}], [None, {"a": 0}]),
    ([{"a": 0}], [None, {"a": 1}]),
    ([{"a": {}}], [{"a": None}, {"a": {}}]),
    ([{"a": {"0": 0}}], [{"a": None}, {"a": {"0": 0}}]),
    ([{"a": {"0": None}}], [{"a": None}, {"a": {"1": 0}}]),
    ([None, {"a": 1}], [None, {"b": 1}]),
    ([None, {"a": {}}], [None, {"a": None}]),
    ([{"a": 1, "b": {"c": {"d": None}}}], [{"b": {"c": {}}, "a": 1}]),
    # A member with a key that both effects have shows nothing in these.
    ([{str(place): 0 for place in range(60)}], [None, {str(place): 0 for place in range(70)}]),
    ([{str(place): None for place in range(90)}], [None, {}]),
    ([{"": 0, "0": 0, "a": 0, "k": 0, "x": 0, "z": 0}], [None, {"": 0, "0": 0, "a": 0, "k": 0, "x": 0, "z": 0}]),
    # At the depth of the deepest patch.
    ([nested(8)], [nested(7, {})]),
    ([nested(8)], [nested(8, 0)]),
    ([nested(8, 0)], [nested(7, {})]),
    ([nested(8, 0)], [nested(8, 1)]),
    ([nested(7, {})], [nested(7)]),
    ([nested(7, {})], [nested(6, {})]),
    ([nested(7), nested(7, {})], [nested(7, {})]),
    ([nested(7), nested(8, 0)], [nested(8, 0)]),
    ([nested(8)], []),
    # Of many parts.
    ([wide(200)], [{**wide(200), "k7": 8}]),
    ([wide(200)], [wide(199)]),
    ([0, wide(199)], [wide(200)]),
    ([{}] * 200, []),
)

# Pairs of rows that do the same.
ALIKE = (
    ([], []),
    ([{}, {}], [{}]),
    ([5, None], [None]),
    ([None, {}], [5, {}]),
    ([None, {}], [[1], {"a": None}]),
    ([{"a": 1}, {"a": 2}], [{"a": 2}]),
    ([{"a": 1}, {"b": 2}], [{"b": 2}, {"a": 1}]),
    ([{"a": 1}, {"b": 2}], [{"a": 1, "b": 2}]),
    ([{"a": 1}, {"a": {}}], [{"a": None}, {"a": {"b": None}}]),
    ([{"a": {"b": 1}}, {"a": None}], [{"a": None}]),
    ([{"a": [1]}, {}], [{"a": [1]}]),
    ([nested(8)] * 3, [nested(8)]),
    ([nested(8, 1), nested(8)], [nested(8)]),
    ([wide(200)], [{key: place for key, place in sorted(wide(200).items(), reverse=True)}]),
    ([{}] * 200, [{}]),
    (list(range(200)), [199]),
)


class Same(unittest.TestCase):

    def test_rows_that_do_the_same(self):
        for row, other in ALIKE:
            with self.subTest(row=row, other=other):
                self.assertIs(same(row, other), True)
                self.assertIs(same(other, row), True)
                self.assertIs(same(tuple(row), other), True)

    def test_rows_that_do_different_things(self):
        for row, other in APART:
            with self.subTest(row=row, other=other):
                self.assertIs(same(row, other), False)
                self.assertIs(same(other, row), False)
                self.assertIs(same(row, tuple(other)), False)

    def test_a_row_and_itself(self):
        for row in ROWS + [row for pair in APART + ALIKE for row in pair]:
            self.assertIs(same(row, row), True)

    def test_each_two_rows(self):
        done = [doing(row) for row in ROWS]
        for (row, did), (other, other_did) in itertools.product(list(zip(ROWS, done)), repeat=2):
            self.assertIs(same(row, other), did == other_did, (row, other))

    def test_only_the_last_occurrence_of_each_patch_counts(self):
        for row in itertools.product(FEW[1:8], repeat=4):
            last = [patch for place, patch in enumerate(row) if patch not in row[place + 1:]]
            self.assertIs(same(row, last), True)


class Parting(unittest.TestCase):

    def look(self, row, other, document):
        """Look whether a document is one that point [7] allows for two rows that do different things."""
        self.assertIsNotNone(document, (row, other))
        self.assertIsNone(check(document))
        self.assertLessEqual(levels(document), max(levels(patch) for patch in list(row) + list(other)))
        part = document
        while isinstance(part, dict) and part:
            self.assertEqual(len(part), 1, (row, other))
            part, = part.values()
        self.assertNotEqual(merge_row(document, row), merge_row(document, other), (row, other))
        self.assertIs(is_parting(row, other, document), True)

    def test_rows_that_do_the_same(self):
        for row, other in ALIKE:
            with self.subTest(row=row, other=other):
                self.assertIsNone(parting(row, other))
                self.assertIsNone(parting(other, tuple(row)))

    def test_rows_that_do_different_things(self):
        for row, other in APART:
            with self.subTest(row=row, other=other):
                self.look(row, other, parting(row, other))
                self.look(other, row, parting(other, row))
                self.look(row, other, parting(tuple(row), tuple(other)))

    def test_each_two_rows(self):
        done = [doing(row) for row in ROWS]
        for (row, did), (other, other_did) in itertools.product(list(zip(ROWS, done)), repeat=2):
            document = parting(row, other)
            if did == other_did:
                self.assertIsNone(document, (row, other))
            else:
                self.look(row, other, document)

    def test_rows_that_are_nearly_the_same(self):
        chance = random.Random(3)
        documents = [random_document(chance, 4) for _ in range(60)]
        found = {True: 0, False: 0}
        for row in random_rows(1500, 4, 4):
            place = chance.randint(0, len(row))
            other = row[:place] + row[place + 1:] + chance.choice([[], row[place:place + 1]])
            document = parting(row, other)
            self.assertEqual(document, parting(row, other))
            found[document is None] += 1
            self.assertIs(same(row, other), document is None)
            if document is None:
                for one in documents:
                    self.assertEqual(merge_row(one, row), merge_row(one, other), (row, other))
            else:
                self.look(row, other, document)
        self.assertGreater(min(found.values()), 100)

    def test_later_changes_of_the_document_reach_nothing(self):
        row, other = [{"a": {"b": 1}}], [{"a": {"b": 2}}, {"a": {}}]
        document = parting(row, [])
        self.assertEqual(document, parting(row, []))
        if isinstance(document, dict):
            document["a"] = 9
        self.look(row, [], parting(row, []))
        self.look(row, other, parting(row, other))


class IsParting(unittest.TestCase):

    def test_documents_that_tell_rows_apart(self):
        for row, other, document in (
                ([], [{}], 5), ([], [{}], None), ([], [{}], [1]), ([], [None], {}), ([None], [{}], None),
                ([{"a": 1}], [{"a": 2}], {}), ([{"a": {}}], [], {"a": None}), ([{"a": None}], [], {"a": None}),
                ([{"a": None}], [{}], {"a": None, "b": 1}), ([None, {}], [{}], {"a": None}),
                ([[1]], [["1"]], 0), ([nested(8)], [nested(7, {})], nested(8, 1)), ([nested(8)], [], nested(8, 1))):
            with self.subTest(row=row, other=other, document=document):
                self.assertIs(is_parting(row, other, document), True)
                self.assertIs(is_parting(tuple(other), tuple(row), document), True)

    def test_documents_that_do_not(self):
        for row, other, document in (
                ([], [], None), ([], [{}], {}), ([], [{}], {"a": None}), ([], [None], None), ([None, {}], [{}], 5),
                ([{"a": 1}], [], {"b": [], "a": 1}), ([{"a": {}}], [], {"a": {}}), ([{"a": None}], [{}], {"b": 1}),
                ([{"a": None}], [{}], 5), ([nested(8)], [nested(7, {})], nested(7, {"a": None})),
                ([{"a": {"b": 1}}], [{"a": None}, {"a": {"b": 1}}], {"a": {"b": {}}})):
            with self.subTest(row=row, other=other, document=document):
                self.assertIs(is_parting(row, other, document), False)
                self.assertIs(is_parting(tuple(other), tuple(row), document), False)

    def test_each_two_of_some_rows_on_many_documents(self):
        documents = MANY + CHAINS[:40]
        results = [[merge_row(document, row) for document in documents] for row in ROWS]
        for (row, after), (other, other_after) in itertools.combinations(list(zip(ROWS, results))[::3], 2):
            for place, document in enumerate(documents):
                self.assertIs(is_parting(row, other, document), after[place] != other_after[place])

    def test_results_may_be_large(self):
        document = {"a" + key: member for key, member in wide(199).items()}
        self.assertIs(is_parting([wide(200)], [], document), True)
        self.assertIs(is_parting([wide(200)], [{**wide(199), "z": 1}], document), True)
        self.assertIs(is_parting([wide(199)], [wide(198), {"k197": 197}], document), False)


if __name__ == "__main__":
    unittest.main()
