"""Texts of documents and of effects, and reading them: points [14] and [15]."""

import json
import random
import re
import time
import unittest

from support import MANY, Refusing, nested, random_document, random_rows, shares, wide
from twopatches.effects import effect
from twopatches.errors import BadText
from twopatches.texts import document_text, effect_text, read_document

# A pattern for strings in texts.
STRING = r'"(?:[^"\\]|\\.)*"'

# Documents and their texts.
TEXTS = (
    (None, 'null'), (0, '0'), (7, '7'), (-1, '-1'), (10, '10'), (-120, '-120'), (10 ** 30, '1' + '0' * 30),
    (10 ** 31 - 1, '9' * 31), (1 - 10 ** 31, '-' + '9' * 31), ('', '""'), ('a', '"a"'), (' ', '" "'),
    ('a  b ', '"a  b "'), ('~!', '"~!"'), ('null', '"null"'), ('-0', '"-0"'), ('"', '"\\""'), ('\\', '"\\\\"'),
    ('\\"', '"\\\\\\""'), ('a"b\\c', '"a\\"b\\\\c"'), ('\\\\n', '"\\\\\\\\n"'), ("'{}[]:,", '"\'{}[]:,"'),
    ([], '[]'), ([None], '[null]'), ([1, -2], '[1,-2]'), (['x', None, 0], '["x",null,0]'),
    (['"', '\\'], '["\\"","\\\\"]'), (['[1]', ','], '["[1]",","]'), ({}, '{}'), ({'a': None}, '{"a":null}'),
    ({'': ''}, '{"":""}'), ({'a': {}}, '{"a":{}}'), ({'b': 1, 'a': 2}, '{"a":2,"b":1}'),
    ({'b': [1, 'x'], 'a': None}, '{"a":null,"b":[1,"x"]}'),
    ({'a b': {'c': [], 'B': {'': -5}}}, '{"a b":{"B":{"":-5},"c":[]}}'),
    ({'10': 1, '9': 2, '': 3, ' ': 4, '~': 5, 'a': 6, 'A': 7, 'aa': 8},
     '{"":3," ":4,"10":1,"9":2,"A":7,"a":6,"aa":8,"~":5}'),
    ({'"': 1, '\\': 2, '\\"': 3, '#': 4}, '{"\\"":1,"#":4,"\\\\":2,"\\\\\\"":3}'),
    (nested(8), '{"k":' * 8 + 'null' + '}' * 8), (nested(7, {}), '{"k":' * 7 + '{}' + '}' * 7),
)

# Texts with more than is needed, and what they are read as.
READ = (
    ('  null  ', None), (' 5', 5), ('5 ', 5), (' -5 ', -5), ('""  ', ''), (' "a" ', 'a'), (' " a " ', ' a '),
    ('0 ', 0), (' [ ] ', []), ('[ 1 , 2 ]', [1, 2]), ('[  null,"a" ,  -3]', [None, 'a', -3]), ('[1 ]', [1]),
    ('[ 1]', [1]), (' { } ', {}), ('{ "a" : 1 }', {'a': 1}), ('{"a":1 , "b":2}', {'a': 1, 'b': 2}),
    ('{"a" :1,"b": 2 }', {'a': 1, 'b': 2}), ('{"b":1,"a":2}', {'a': 2, 'b': 1}),
    ('{ "a" : { "b" : [ ] } , "c" : null } ', {'a': {'b': []}, 'c': None}),
    ('{"a":{"a":{"a":1}}}', {'a': {'a': {'a': 1}}}), ('{"a":{"x":1},"b":{"x":1}}', {'a': {'x': 1}, 'b': {'x': 1}}),
    ('{"a":1,"a ":2," a":3,"":4,"aa":5}', {'a': 1, 'a ': 2, ' a': 3, '': 4, 'aa': 5}),
    ('{"\\\\":1,"\\"":2}', {'\\': 1, '"': 2}), ('["\\\\\\""]', ['\\"']),
)

# Texts that are malformed, and the place.
MALFORMED = (
    # Texts that end too early: their length.
    ('', 0), (' ', 1), ('     ', 5), ('-', 1), (' -', 2), ('n', 1), ('nu', 2), ('nul', 3), ('"', 1), ('"a', 2),
    ('"\\', 2), ('"a\\"', 4), ('"\\\\\\"', 5), ('[', 1), ('[ ', 2), ('[1', 2), ('[1 ', 3), ('[1,', 3), ('[1, ', 4),
    ('[nul', 4), ('["a', 3), ('{', 1), ('{ ', 2), ('{"', 2), ('{"a', 3), ('{"a"', 4), ('{"a" ', 5), ('{"a":', 5),
    ('{"a": ', 6), ('{"a":1', 6), ('{"a":-', 6), ('{"a":1,', 7), ('{"a":1, ', 8), ('{"a":{}', 7), ('{"a":[1]', 8),
    ('{"a":{"b":1}', 12), ('{"a":1,"b', 9), ('{"a":1,"a', 9), ('{"a":1,"', 8), ('{"a\\":1}', 8),
    # What no document begins with.
    ('x', 0), (' x', 1), ('N', 0), ('true', 0), ('false', 0), ('+1', 0), ('.5', 0), (']', 0), ('}', 0), (',', 0),
    (':', 0), ('\\', 0), ("'a'", 0), ('(1)', 0), ('None', 0), ('#', 0), ('a', 0),
    # What does not follow a document.
    ('null null', 5), ('nullx', 4), ('null,', 4), ('1 2', 2), ('1,2', 1), ('5a', 1), ('5-', 1), ('5.0', 1),
    ('1e5', 1), ('""""', 2), ('"a"b', 3), ('[]]', 2), ('[] []', 3), ('{}}', 2), ('{} 5', 3), ('{},', 2),
    ('{"a":1}}', 7), ('null]', 4),
    # Null.
    ('nil', 1), ('nUll', 1), ('nuLl', 2), ('nulL', 3), ('n ull', 1), ('nul l', 3), ('nul"', 3), ('[nulx]', 4),
    # Integers.
    ('01', 1), ('00', 1), ('0123', 1), ('-0', 1), ('-01', 1), ('-00', 1), ('- 1', 1), ('--1', 1), ('-a', 1),
    ('-"', 1), ('-]', 1), ('1-', 1), ('1 -1', 2), ('0 0', 2), ('{"a": 01}', 7), ('[1,02]', 4), ('[-0]', 2),
    ('{"a":-0}', 6), ('[1,-]', 4), ('1' * 32, 31), ('-' + '1' * 32, 32), ('1' * 40, 31), ('[' + '9' * 32 + ']', 32),
    ('{"a":' + '1' * 32 + '}', 36), ('1' + '0' * 31, 31), ('  ' + '2' * 32, 33), ('1 000', 2), ('1_0', 1),
    ('0x1', 1), ('0-', 1), ('12+', 2),
    # Strings.
    ('"\\n"', 2), ('"\\u0041"', 2), ('"a\\b"', 3), ('"\\ "', 2), ("\"\\'\"", 2), ('"\\\\\\/"', 4), ('["\\a"]', 3),
    ('{"\\a":1}', 3), ('"a\nb"', 2), ('"a\tb"', 2), ('"\u00e9"', 1), ('"\x7f"', 1), ('"a%"', 2), ('{"%":1}', 2),
    ('"\\%"', 2), ('"\x1f', 1),
    # Lists.
    ('[,', 1), ('[,1]', 1), ('[1,]', 3), ('[1,,2]', 3), ('[1 2]', 3), ('[1;2]', 2), ('[1:2]', 2), ('[1}', 2),
    ('[}', 1), ('[:', 1), ('[[', 1), ('[[]]', 1), ('[1,[2]]', 3), ('[{}]', 1), ('[1,{"a":1}]', 3), ('[ [', 2),
    ('[null null]', 6), ('["a""b"]', 4), ('["a" "b"]', 5), ('[-]', 2), ('[x]', 1), ('[1,x]', 3), ('[true]', 1),
    ('{"a":[{}]}', 6), ('{"a":[1,}', 8),
    # Objects.
    ('{,', 1), ('{,}', 1), ('{]', 1), ('{:', 1), ('{1:2}', 1), ('{a:1}', 1), ('{null:1}', 1), ("{'a':1}", 1),
    ('{{}}', 1), ('{[]}', 1), ('{"a"}', 4), ('{"a",', 4), ('{"a" 1}', 5), ('{"a"1}', 4), ('{"a"=1}', 4),
    ('{"a"::1}', 5), ('{"a":}', 5), ('{"a": }', 6), ('{"a":,', 5), ('{"a":1,}', 7), ('{"a":1, }', 8),
    ('{"a":1,,', 7), ('{"a":1 "b":2}', 7), ('{"a":1;"b":2}', 6), ('{"a":1]', 6), ('{"a":1,2}', 7),
    ('{"a":1,b:2}', 7), ('{"a":1,null}', 7), ('{"a":1:2}', 6), ('{"a":[]]', 7), ('{"a":{]}', 6), ('{"a":x}', 5),
    ('{"a":"b" "c"}', 9), ('{"a":{}{}}', 7), ('{ x', 2), ('{"a":tru', 5), ('{"a":"b":"c"}', 8), ('{-', 1),
    ('{"a":1,-', 7),
    # A key that was met before: at the quote that begins it, once it is complete.
    ('{"a":1,"a":2}', 7), ('{"a":1,"a"', 7), ('{"a":1,"a"x', 7), ('{"a":1,"a" ', 7), ('{"a":1, "a":1}', 8),
    ('{"":1,"":1}', 6), ('{"a":1,"b":2,"a":3}', 13), ('{"a":1,"b":2,"b":3}', 13), ('{"a":{"b":1,"c":2,"b":3}}', 18),
    ('{"a":{},"a":{}}', 8), ('{"a":{"a":1},"a":2}', 13), ('{"\\"":1,"\\"":2}', 8), ('{"\\\\":1,"\\\\":2}', 8),
    ('{"a":{"a":1,"a":2},"a":3}', 12), ('{ "a" : 1 , "a" : 2 }', 12), ('{"ab":1,"a":2,"ab":3}', 14),
    ('{"a":null,"a":null}', 10), ('{"a":1,"a":2,"a":3}', 7), ('{"a":1,"a\\x":2}', 10), ('{"a":1,"a%', 9),
    ('{"a":1,"a":01}', 7), ('{"a":1,"b":2,"a"', 13),
    # The first of several faults.
    ('{"a":01,"a":-0', 6), ('[1,]]', 3), ('x"', 0), ('"\\a%', 2),
)


class Reading(Refusing):

    def malformed(self, text, place):
        with self.assertRaises(BadText) as raised:
            read_document(text)
        self.assertEqual(raised.exception.place, place)


class DocumentText(Refusing):

    def test_texts(self):
        for document, text in TEXTS:
            with self.subTest(text=text):
                self.assertEqual(document_text(document), text)
                self.assertEqual(document_text(document=document), text)

    def test_the_order_of_the_keys_does_not_matter(self):
        document = {"b": {"d": 1, "c": 2}, "a": 3}
        self.assertEqual(document_text(document), '{"a":3,"b":{"c":2,"d":1}}')
        self.assertEqual(document, {"b": {"d": 1, "c": 2}, "a": 3})
        self.assertEqual(list(document), ["b", "a"])

    def test_long_integers(self):
        for digits in (31, 32, 63, 64, 65, 127, 128, 129, 192, 1000, 3999, 4000, 4299, 4300, 4301, 5000):
            for first in "19":
                number = int(first) * 10 ** (digits - 1)
                text = first + "0" * (digits - 1)
                for sign, shown in ((1, ""), (-1, "-")):
                    self.assertEqual(document_text(sign * number), shown + text)
                    self.assertEqual(document_text({"a": [sign * number]}), '{"a":[' + shown + text + ']}')
                self.assertEqual(document_text(10 ** digits - 1), "9" * digits)
        # With zeros and other digits in between.
        for text in ("4" + "0" * 70 + "12" + "0" * 130 + "5", "1" + "0" * 63 + "7", "123456789" * 30, "10" * 100):
            self.assertEqual(document_text(int(text)), text)
            self.assertEqual(document_text(-int(text)), "-" + text)

    def test_it_is_what_json_writes(self):
        for document in MANY + random_documents(500):
            text = json.dumps(document, sort_keys=True, separators=(",", ":"))
            self.assertEqual(document_text(document), text)

    def test_wrong_documents(self):
        self.refused((), document_text, True)
        self.refused(("a",), document_text, {"b": (1,), "a": [1, {"b": 2}]})
        self.large("depth", document_text, nested(9))
        self.large("parts", document_text, wide(201))
        self.assertEqual(len(document_text(wide(200))), len(json.dumps(wide(200), separators=(",", ":"))))


def random_documents(many):
    """So many documents of at most 4 levels, the same ones each time."""
    chance = random.Random(14)
    return [random_document(chance, 4) for _ in range(many)]


class ReadDocument(Reading):

    def test_texts(self):
        for document, text in TEXTS:
            with self.subTest(text=text):
                self.assertEqual(read_document(text), document)
                self.assertEqual(read_document(text=text), document)
                self.assertIs(read_document(text).__class__, document.__class__)

    def test_blanks_and_keys_in_any_order(self):
        for text, document in READ:
            with self.subTest(text=text):
                self.assertEqual(read_document(text), document)
                self.assertIs(read_document(text).__class__, document.__class__)

    def test_what_was_written_is_read(self):
        for document in MANY + random_documents(500):
            self.assertEqual(read_document(document_text(document)), document)

    def test_blanks_between_all_parts(self):
        for document in MANY + random_documents(300):
            text = document_text(document)
            loose = "  ".join(re.findall(STRING + r"|null|-?[0-9]+|[{}\[\]:,]", text)).join(["  ", "   "])
            self.assertEqual(read_document(loose), document)

    def test_each_malformed_text(self):
        for text, place in MALFORMED:
            with self.subTest(text=text):
                self.malformed(text, place)

    def test_malformed_texts_inside_others(self):
        for text, place in MALFORMED:
            self.malformed("   " + text, 3 + place)
            # A member may be followed by a comma or a brace, a document alone by nothing.
            if text[place:place + 1] not in (",", "}"):
                for before in ('{"z":', '{ "y" : 0, "z" : {"y":'):
                    self.malformed(before + text, len(before) + place)

    def test_texts_that_end_too_early(self):
        for document in MANY[::5] + random_documents(60):
            text = document_text({"a": document, "b": [1, "x\\y\"", None], "c": {"d": -12}})
            for many in range(len(text)):
                self.malformed(text[:many], many)

    def test_what_follows_a_document(self):
        for document, text in TEXTS + tuple((document, text) for text, document in READ):
            for sign in ('x', ',', ']', '}', ':', '"', '{', '[', 'n', '\\', '.'):
                self.malformed(text + sign, len(text))
                self.malformed(text + "  " + sign + "1", len(text) + 2)

    def test_then_the_errors_of_check(self):
        self.large("depth", read_document, '{"k":' * 9 + 'null' + '}' * 9)
        self.large("depth", read_document, '{"k":' * 8 + '{}' + '}' * 8)
        self.large("depth", read_document, '{"k":' * 50 + '1' + '}' * 50)
        many = ",".join('"' + str(place) + '":0' for place in range(200))
        self.large("parts", read_document, '{' + many + '}')
        self.assertEqual(len(read_document('{' + many[:many.rindex(",")] + '}')), 199)
        deep = '{"k":' * 9 + '{"a":0,' + many + '}' + '}' * 9
        self.large("depth", read_document, deep)
        # But malformed texts come first.
        self.malformed('{"k":' * 9 + 'null' + '}' * 10, 9 * 5 + 4 + 9)
        self.malformed('{' + many, len(many) + 1)
        self.malformed('{' + many + ',"0":1}', len(many) + 2)
        self.assertEqual(read_document('[' + ",".join(["0"] * 900) + ']'), [0] * 900)

    def test_deep_texts(self):
        for many in (9, 20, 50):
            self.malformed('{"k":' * many, 5 * many)
            self.malformed('{"k":' * many + ']', 5 * many)
            self.malformed('{"k":' * many + '1' + '}' * many + '}', 6 * many + 1)

    def test_results_are_new(self):
        text = '{"a":[1],"b":{"c":[1]}}'
        one, other = read_document(text), read_document(text)
        self.assertEqual(one, other)
        self.assertFalse(shares(one, [other]))
        one["a"].append(2)
        self.assertEqual(read_document(text), other)


def is_text(text):
    """Whether a text is that of a document, by Python's own reader and what it allows too much."""
    def pairs(found):
        if len(dict(found)) < len(found):
            raise ValueError("a key twice")
        return dict(found)

    def fitting(value, inner=False):
        if isinstance(value, dict):
            return not inner and all(map(fitting, value.values()))
        if isinstance(value, list):
            return not inner and all(fitting(one, True) for one in value)
        return not isinstance(value, (bool, float))

    bare = re.sub(STRING, '""', text)
    if re.search(r"-0|[0-9]{32}|[^-0-9nul{}\[\]:,\" ]", bare) or re.search(r"\\[^\"\\]", text.replace("\\\\", "")):
        return False
    try:
        return fitting(json.loads(text, object_pairs_hook=pairs))
    except ValueError:
        return False


# What can be missing in the middle of a beginning, and what closes it.
MIDDLES = ["", "1", '"', '\\"', '\\', '\\":1', '":1', ':1', 'null', 'ull', 'll', 'l', '"zz":1', 'z"', 'z":1', '\\z"',
           '\\z":1', '""', '"z', 'zz":1']
CLOSINGS = [list_end + "}" * many for many in range(5) for list_end in ("", "]")]


def can_begin(text):
    """Whether a text is the beginning of a text of a document, at most five deep."""
    return any(is_text(text + middle + closing) for middle in MIDDLES for closing in CLOSINGS)


def first_wrong(text):
    """The place that BadText has for a malformed text, found by trying beginnings of it."""
    good, wrong = 0, len(text) + 1
    while good + 1 < wrong:
        middle = (good + wrong) // 2
        good, wrong = (middle, wrong) if can_begin(text[:middle]) else (good, middle)
    if text[good:good + 1] == '"' and can_begin(text[:good] + 'zz"'):
        # Only as the end of its key is the quote wrong.
        return [found.start() for found in re.finditer(STRING, text[:good + 1])][-1]
    return good


class Beginnings(Reading):

    def test_changed_texts(self):
        chance = random.Random(15)
        originals = ['{"a":1,"b":{"a":[1,null],"":"a"}}', '[null,"a b",-10, 0]', ' {"b" :null, "a": -1 } ',
                     '"a\\"\\\\"', '{"a":{"b":{"c":{}}},"ab":[]}', '-105', ' null ']
        for turn in range(900):
            text = list(originals[turn % len(originals)])
            for _ in range(chance.randint(1, 2)):
                place = chance.randrange(len(text))
                how = chance.randrange(3)
                sign = chance.choice('{}[]:,"\\ab01-n ul')
                text[place:place + (how != 0)] = [] if how == 1 else [sign]
                text = text or [sign]
            self.same_place("".join(text))

    def same_place(self, text):
        if is_text(text):
            read_document(text)
        else:
            self.malformed(text, first_wrong(text))

    def test_random_texts(self):
        chance = random.Random(16)
        parts = ['{', '}', '[', ']', ':', ',', '"a"', '"b"', '""', '"', 'null', 'nul', '1', '0', '-', ' ', '-1', 'a']
        for _ in range(1500):
            self.same_place("".join(chance.choices(parts, k=chance.randint(0, 8))))


class EffectText(unittest.TestCase):

    def test_rows(self):
        for row, text in (
                ([], 'keep'), ([5], 'set 5'), ([-5], 'set -5'), ([None], 'set null'), ([""], 'set ""'),
                (['a"b\\'], 'set "a\\"b\\\\"'), ([[]], 'set []'), ([[1, None, "x"]], 'set [1,null,"x"]'),
                ([{}], 'merge {}'), ([{"a": 1}], 'merge {"a":set 1}'), ([{"a": None}], 'merge {"a":drop}'),
                ([{"a": {}}], 'merge {"a":merge {}}'), ([5, {}], 'build {}'), ([5, {"a": 1}], 'build {"a":set 1}'),
                ([5, {"a": None}], 'build {}'), ([5, {"a": {"b": [1]}}], 'build {"a":build {"b":set [1]}}'),
                ([{"a": None}, {"a": {"b": 1}}], 'merge {"a":build {"b":set 1}}'),
                ([{"b": 1, "a": None}, {"": {}}], 'merge {"":merge {},"a":drop,"b":set 1}'),
                ([{"10": 1, "9": 1, "B": 1, "a b": 1}], 'merge {"10":set 1,"9":set 1,"B":set 1,"a b":set 1}'),
                ([{'"': {"\\": None}}], 'merge {"\\"":merge {"\\\\":drop}}'), ([10 ** 31], 'set 1' + '0' * 31),
                ([{"a": -10 ** 4000}], 'merge {"a":set -1' + '0' * 4000 + '}'),
                ([nested(8)], 'merge {"k":' * 8 + 'drop' + '}' * 8)):
            with self.subTest(row=row):
                self.assertEqual(effect_text(effect(row)), text)
                self.assertEqual(effect_text(one=effect(tuple(row))), text)

    def test_members(self):
        one = effect([{"a": None, "b": [1], "c": {"d": 1}}])
        self.assertEqual([effect_text(member) for _, member in one.members],
                         ['drop', 'set [1]', 'merge {"d":set 1}'])

    def test_sums(self):
        self.assertEqual(effect_text(effect([5]) + effect([{"b": 1, "a": 2}])), 'build {"a":set 2,"b":set 1}')
        large = effect([wide(200)]) + effect([{"z" + str(place): place for place in range(199)}])
        self.assertEqual(effect_text(large).count(":set "), 398)

    def test_each_effect_has_its_own_text(self):
        def shown(one):
            if one.kind in ("merge", "build"):
                members = ",".join(json.dumps(key) + ":" + shown(member) for key, member in one.members)
                return one.kind + " {" + members + "}"
            return "set " + json.dumps(one.atom, separators=(",", ":")) if one.kind == "set" else one.kind

        for row in random_rows(1500, 4, 4):
            self.assertEqual(effect_text(effect(row)), shown(effect(row)))


class Time(unittest.TestCase):

    def test_texts_of_2000_characters(self):
        begin = time.perf_counter()
        for text in ('"' + "a" * 1998 + '"', '"' + "\\\\" * 999 + '"', '[' + "1," * 998 + '1]', " " * 1996 + "null",
                     '{' + ",".join('"' + str(place) + '":{}' for place in range(190)) + '}'):
            for _ in range(20):
                document = read_document(text)
                self.assertEqual(read_document(document_text(document)), document)
        for text in ('"' + "a" * 1999, '"' * 2000, '[' + "1," * 999, " " * 2000, '1' * 2000, '{"a":' * 50):
            with self.assertRaises(BadText):
                read_document(text)
        self.assertLess(time.perf_counter() - begin, 5)


if __name__ == "__main__":
    unittest.main()
