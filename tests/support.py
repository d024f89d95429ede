"""What several tests need: documents of given sizes, and a second account of DOC.md's rules."""

import copy
import json
import random
import unittest

from twopatches.errors import Large, NoDocument


class Refusing(unittest.TestCase):

    def refused(self, path, call, *given):
        with self.assertRaises(NoDocument) as raised:
            call(*given)
        self.assertEqual(raised.exception.path, path)
        self.assertIsInstance(raised.exception.path, tuple)

    def large(self, what, call, *given):
        with self.assertRaises(Large) as raised:
            call(*given)
        self.assertEqual(raised.exception.what, what)


def nested(levels, inmost=None):
    """An object of so many levels, each with the key "k"; the last one holds the inmost value."""
    value = inmost
    for _ in range(levels):
        value = {"k": value}
    return value


def wide(parts):
    """An object with so many parts, all but itself integers."""
    return {"k" + str(place): place for place in range(parts - 1)}


def merge_patch(target, patch):
    """What a patch does, told by the pseudocode of RFC 7396: it changes copies in place."""
    if not isinstance(patch, dict):
        return copy.deepcopy(patch)
    target = copy.deepcopy(target) if isinstance(target, dict) else {}
    for name, value in patch.items():
        if value is None:
            if name in target:
                del target[name]
        else:
            target[name] = merge_patch(target.get(name), value)
    return target


def merge_row(document, row):
    """The document after each patch of a row."""
    for patch in row:
        document = merge_patch(document, patch)
    return document


def objects_over(keys, members):
    """All objects whose keys are among these and whose members are among those."""
    found = [{}]
    for key in keys:
        found = found + [{**one, key: member} for one in found for member in members]
    return found


SMALL_ATOMS = [None, 1, ["x"]]
SMALL_OBJECTS = objects_over("a", SMALL_ATOMS)
# Each kind of document meets each kind of patch in these, down to the third level.
MANY = (SMALL_ATOMS + objects_over("ab", [None, 2]) + objects_over("a", SMALL_OBJECTS)
        + objects_over("a", objects_over("b", SMALL_OBJECTS)) + [{"a": 1, "b": {"a": 1, "b": {}}}])
FEW = [None, 1, {}, {"a": None}, {"a": 1}, {"a": {}}, {"a": {"b": None}}, {"a": {"b": 1}}, {"b": {"a": 2}}]


def containers(value):
    """All lists and dictionaries in a document, itself counted."""
    if isinstance(value, dict):
        return [value] + [one for member in value.values() for one in containers(member)]
    return [value] if isinstance(value, list) else []


def shares(one, others):
    """Whether a list or a dictionary of the one document stands in it twice or in another one."""
    own = [id(part) for part in containers(one)]
    foreign = [id(part) for other in others for part in containers(other)]
    return len(set(own)) < len(own) or bool(set(own) & set(foreign))


# Objects with one member each and an atom that no row sets: where two rows of documents like those above (keys a and
# b, at most three levels) do different things, one of these shows it.
CHAINS = ["w"]
for _ in range(4):
    CHAINS = ["w"] + [{key: inner} for key in "abz" for inner in CHAINS]


def doing(row):
    """What a row does to each of the chains, as one string."""
    return json.dumps([merge_row(document, row) for document in CHAINS], sort_keys=True)


def levels(document):
    """How deep the objects of a document are nested."""
    return 1 + max(map(levels, document.values()), default=0) if isinstance(document, dict) else 0


def many_parts(document):
    """The number of documents in a document, itself counted."""
    return 1 + sum(map(many_parts, document.values())) if isinstance(document, dict) else 1


def random_document(chance, most):
    """A document of at most so many levels, with few different keys and atoms."""
    if most == 0 or chance.random() < 0.3:
        return chance.choice([None, None, 0, 1, "0", [], [0]])
    keys = chance.sample(["", "0", "1", "a"], chance.choice([0, 1, 1, 2, 2]))
    return {key: random_document(chance, most - 1) for key in keys}


def random_rows(many, most_patches, most_levels):
    """So many rows of at most so many patches, the same ones each time."""
    chance = random.Random(7)
    return [[random_document(chance, most_levels) for _ in range(chance.randint(0, most_patches))]
            for _ in range(many)]
