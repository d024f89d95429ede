"""The desk: point [16]."""

import copy
import json
import random
import time
import unittest

from support import merge_patch, merge_row, nested, random_document, wide
from twopatches.changes import change
from twopatches.compacting import compact, needless
from twopatches.desk import Desk
from twopatches.effects import effect
from twopatches.errors import PatchError
from twopatches.logs import Log
from twopatches.texts import document_text, effect_text

DONE = ['done']
BAD_TEXT = ['refused badtext']

# Sessions: commands, each with its answer.
SESSIONS = (
    # A new desk.
    (('row', []), ('first', ['{}']), ('now', ['{}']), ('at 0', ['{}']), ('effect', ['keep']), ('compact', []),
     ('needless', ['none']), ('change {}', ['{}']), ('back', ['refused noback']), ('squeeze 0 0', DONE),
     ('back', ['refused noback'])),
    # The examples of the document.
    (('add {"a":1}', DONE), ('now', ['{"a":1}'])),
    (('back', ['refused noback']),),
    # The row.
    (('add {"b":[1,"x"],"a":null}', DONE), ('add 5', DONE), ('add null', DONE), ('add "a \\"b\\\\"', DONE),
     ('add {}', DONE),
     ('row', ['{"a":null,"b":[1,"x"]}', '5', 'null', '"a \\"b\\\\"', '{}']), ('first', ['{}']),
     ('at 0', ['{}']), ('at 1', ['{"b":[1,"x"]}']), ('at 2', ['5']), ('at 3', ['null']), ('at 4', ['"a \\"b\\\\"']),
     ('at 5', ['{}']), ('now', ['{}']), ('at 6', ['refused notime']), ('effect', ['build {}']),
     ('compact', ['null', '{}']), ('needless', ['0 1 2 3'])),
    # The first document.
    (('begin {"b": null, "a": {"c": 1}}', DONE), ('first', ['{"a":{"c":1},"b":null}']), ('add {"a":{"d":2}}', DONE),
     ('now', ['{"a":{"c":1,"d":2},"b":null}']), ('at 0', ['{"a":{"c":1},"b":null}']), ('begin []', DONE),
     ('now', ['{"a":{"d":2}}']), ('first', ['[]']), ('at 0', ['[]']), ('row', ['{"a":{"d":2}}']), ('back', DONE),
     ('now', ['{"a":{"c":1,"d":2},"b":null}']), ('back', DONE), ('row', []), ('back', DONE), ('first', ['{}']),
     ('back', ['refused noback'])),
    # A first document that is no other one than before.
    (('begin {}', DONE), ('back', ['refused noback']), ('begin { "a" : 1 }', DONE), ('begin {"a":1}', DONE),
     ('back', DONE), ('back', ['refused noback'])),
    # Squeezes.
    (('add {"a":1}', DONE), ('add {"a":{"b":2}}', DONE), ('effect', ['merge {"a":build {"b":set 2}}']),
     ('compact', ['{"a":null}', '{"a":{"b":2}}']), ('needless', ['none']), ('squeeze 0 2', DONE),
     ('row', ['{"a":null}', '{"a":{"b":2}}']), ('at 1', ['{}']), ('squeeze 0 2', DONE), ('squeeze 1 1', DONE),
     ('back', DONE), ('row', ['{"a":1}', '{"a":{"b":2}}']), ('at 1', ['{"a":1}'])),
    (('add 1', DONE), ('add 2', DONE), ('add 3', DONE), ('add 4', DONE), ('squeeze 1 3', DONE),
     ('row', ['1', '3', '4']), ('squeeze 0 3', DONE), ('row', ['4']), ('back', DONE), ('row', ['1', '3', '4']),
     ('squeeze 3 3', DONE), ('squeeze 0 4', ['refused notime']), ('squeeze 4 4', ['refused notime']),
     ('squeeze 2 1', ['refused notime']), ('squeeze 9 1', ['refused notime']), ('row', ['1', '3', '4']),
     ('back', DONE), ('row', ['1', '2', '3', '4'])),
    # Needless patches.
    (('add {"a":1}', DONE), ('needless', ['none']), ('add {"a":2}', DONE), ('needless', ['0']), ('add {"a":1}', DONE),
     ('needless', ['0 1']), ('compact', ['{"a":1}'])),
    # Changes.
    (('begin {"a":{"b":1,"c":2},"d":3}', DONE),
    ('change {"a":{"b":1,"c":4},"e":{}}', ['{"a":{"c":4},"d":null,"e":{}}']),
     ('change  { "d" : 3 , "a":{"c":2,"b":1} } ', ['{}']), ('change 5', ['5']), ('change null', ['null']),
     ('change {"d":null}', ['refused nochange']), ('change {"d":{"a":null}}', ['refused nochange']), ('add 7', DONE),
     ('change {"e":{}}', ['{"e":{}}']), ('change 7', ['7']), ('change {"d":null}', ['refused nochange']),
     ('now', ['7']), ('change [null]', ['[null]'])),
    (('begin {"a":null}', DONE), ('change {"a":null,"b":1}', ['{"b":1}']), ('add {"a":1}', DONE),
     ('change {"a":null,"b":1}', ['refused nochange'])),
    # Blanks in a document, and keys in any order.
    (('add  5', DONE), ('add 6 ', DONE), ('add   { "b" : 1 ,"a":[ 1 , null ]}  ', DONE),
     ('row', ['5', '6', '{"a":[1,null],"b":1}']), ('begin  " x "  ', DONE), ('first', ['" x "'])),
    # Errors of check, and too large a row.
    (('add ' + '{"k":' * 9 + '1' + '}' * 9, ['refused large']),
    ('begin ' + '{"k":' * 8 + '{}' + '}' * 8, ['refused large']),
     ('change ' + '{"k":' * 9 + '1' + '}' * 9, ['refused large']), ('back', ['refused noback']),
     ('add ' + '{"k":' * 8 + '1' + '}' * 8, DONE), ('begin ' + '{"k":' * 7 + '{}' + '}' * 7, DONE)),
    (('add ' + json.dumps(wide(201)), ['refused large']), ('begin ' + json.dumps(wide(201)), ['refused large']),
     ('change ' + json.dumps(wide(201)), ['refused large']), ('back', ['refused noback']),
     ('add ' + json.dumps(wide(200)), DONE), ('add 5', ['refused large']), ('squeeze 0 1', DONE), ('back', DONE),
     ('row', []), ('add 5', DONE)),
    # Numbers of many digits.
    (('add 5', DONE), ('at 1', ['5']), ('at 1000000000000000000000000000000', ['refused notime']),
     ('at ' + '9' * 31, ['refused notime']), ('at ' + '9' * 32, BAD_TEXT),
     ('squeeze 0 ' + '9' * 31, ['refused notime']),
     ('squeeze ' + '1' * 31 + ' 0', ['refused notime']), ('squeeze ' + '1' * 32 + ' 0', BAD_TEXT),
     ('squeeze 0 ' + '1' * 32, BAD_TEXT), ('add ' + '9' * 31, DONE), ('now', ['9' * 31]), ('add -' + '9' * 31, DONE),
     ('now', ['-' + '9' * 31]), ('add ' + '9' * 32, BAD_TEXT), ('back', DONE), ('back', DONE), ('now', ['5'])),
)

# Commands that are no commands, whatever the log holds.
NO_COMMANDS = (
    '', ' ', '  ', 'x', 'Row', 'ROW', 'rows', 'ro', 'r', 'row,', 'row.', 'row row', 'help', 'many', 'core', 'latest',
    'writers', 'undo', 'tell', 'run', 'check', '{}', '5', 'null', '"row"', 'back 1', 'back 0', 'back back', 'row 0',
    'row {}', 'first {}', 'first 0', 'now 0', 'now {}', 'effect {}', 'effect 0', 'compact 0', 'compact 0 1',
    'needless 0', 'needless none', 'done',
    # Blanks.
    ' row', 'row ', '  row', 'row  ', ' back', 'back ', 'first ', ' first', 'now ', ' now', 'effect ', ' effect',
    'compact ', ' compact', 'needless ', ' needless', ' at 0', 'at  0', 'at 0 ', ' squeeze 0 0', 'squeeze  0 0',
    'squeeze 0  0', 'squeeze 0 0 ', ' add 5', ' begin 5', ' change 5', 'ad d 5', 'a t 0', 'at\t0', 'row\n', 'add\t5',
    # No document, or more than one, or a malformed one.
    'add', 'add ', 'add  ', 'begin', 'begin ', 'begin  ', 'change', 'change ', 'change  ', 'add5', 'add{}',
    'begin{}', 'change{}', 'add 5 5', 'add 5 6', 'begin {} {}', 'change {} 0', 'add x', 'add {', 'add }', 'add [',
    'add {]', 'add [[1]]', 'add {"a"}', 'add {"a":1,"a":1}', 'add 01', 'add -0', 'add +1', 'add 1.0', 'add true',
    'add "', 'add "\\n"', 'add ,', 'add nul', 'add nulls', 'begin {"a":1,}', 'begin [1,]',
    'begin {a:1}', "begin 'a'", 'change {"a":tru}', 'change {"a":[{}]}', 'change {"a":{"b":1}',
    'add {"k":' + '{"k":' * 8 + '1' + '}' * 8, 'add ' + '{"k":' * 9 + '1' + '}' * 10,
    'begin ' + json.dumps(wide(201)) + '}',
    # No number, or one number too many or too few, or a malformed one.
    'at', 'at ', 'at0', 'at 0 0', 'at 0 1', 'at x', 'at -1', 'at -0', 'at +0', 'at +1', 'at 00', 'at 01', 'at 0x',
    'at 1.0', 'at 0,', 'at "0"', 'at null', 'at []', 'at {}', 'at one', 'at 1e0', 'at 0 ' + '0', 'at -' + '1' * 31,
    'at ' + '0' * 31, 'squeeze', 'squeeze ', 'squeeze 0', 'squeeze 0 ', 'squeeze  0', 'squeeze 0 0 0', 'squeeze 0,0',
    'squeeze 0 -0', 'squeeze 0 -1', 'squeeze -1 0', 'squeeze -0 0', 'squeeze +0 0', 'squeeze 0 +0', 'squeeze 00 0',
    'squeeze 0 00', 'squeeze 01 1', 'squeeze 0 01', 'squeeze x 0', 'squeeze 0 x', 'squeeze 0 null', 'squeeze [] 0',
    'squeeze 0 0x', 'squeeze 0x 0', 'squeeze00', 'squeeze 0-0',
    # Wrong numbers come after malformed ones.
    'squeeze 99 x', 'squeeze 99 01', 'squeeze x 99', 'squeeze 99 -1', 'squeeze 99', 'squeeze 99 99 99',
    'squeeze 1 0 x', 'at 99 ', 'at 99 1',
)


def told(commands):
    """The answers of a new desk to some commands."""
    desk = Desk()
    return [desk.tell(command) for command in commands]


def state(desk):
    """All that can be asked of a desk, also of the time before each change; the desk stays as it is."""
    desk = copy.deepcopy(desk)
    found = []
    while True:
        found.append([desk.tell(command) for command in ('row', 'first', 'now')])
        if desk.tell('back') != DONE:
            return found


def desks():
    """A new desk and two with something in them."""
    found = [Desk(), Desk(), Desk()]
    for command in ('begin {"a":{"c":1}}', 'add {"a":1}', 'add {"a":{"b":2}}', 'add {"a":1}'):
        found[1].tell(command)
    for command in ('add 5', 'squeeze 0 1', 'begin null', 'add ' + json.dumps(wide(199))):
        found[2].tell(command)
    return found


class Commands(unittest.TestCase):

    def test_sessions(self):
        for session in SESSIONS:
            desk = Desk()
            for command, answer in session:
                with self.subTest(session=session[:3], command=command):
                    self.assertEqual(desk.tell(command), answer)

    def test_by_name(self):
        self.assertEqual(Desk().tell(row='add 5'), DONE)
        self.assertEqual(Desk().tell(row='at 1'), ['refused notime'])

    def test_answers_are_lists_of_strings(self):
        for session in SESSIONS:
            for answer in told([command for command, _ in session]):
                self.assertIs(answer.__class__, list)
                for line in answer:
                    self.assertIs(line.__class__, str)

    def test_answers_are_new(self):
        desk = desks()[1]
        for command in ('row', 'first', 'now', 'at 1', 'effect', 'compact', 'needless', 'add 5', 'back', 'x', 'at 9'):
            answer = desk.tell(command)
            expected = list(answer)
            answer.append('later')
            if command not in ('add 5', 'back'):
                self.assertEqual(desk.tell(command), expected)

    def test_each_desk_is_its_own(self):
        one, other = Desk(), Desk()
        one.tell('add 5')
        one.tell('begin 6')
        self.assertEqual(other.tell('row') + other.tell('first') + other.tell('back'), ['{}', 'refused noback'])

    def test_random_commands(self):
        chance = random.Random(17)
        for _ in range(40):
            desk, log = Desk(), Log()
            for _ in range(60):
                command, answer = random_command(chance, log)
                self.assertEqual(desk.tell(command), answer, command)
            self.assertEqual(desk.tell('row'), [document_text(patch) for patch in log.row()])


def random_command(chance, log):
    """A command and its answer, which a log gives that is treated alike."""
    kind = chance.choice(['begin', 'add', 'add', 'squeeze', 'back', 'row', 'at', 'effect', 'compact', 'needless', 'now',
                          'first', 'change'])
    document, begin, end = random_document(chance, 3), chance.randint(0, 12), chance.randint(0, 12)
    text = json.dumps(document)
    calls = {
        'begin': (' ' + text, lambda: log.begin(document)), 'add': (' ' + text, lambda: log.add(document)),
        'squeeze': (f' {begin} {end}', lambda: log.squeeze(begin, end)), 'back': ('', log.back),
        'row': ('', lambda: [document_text(patch) for patch in log.row()]),
        'at': (f' {begin}', lambda: [document_text(log.at(begin))]),
        'effect': ('', lambda: [effect_text(effect(log.row()))]),
        'compact': ('', lambda: [document_text(patch) for patch in compact(log.row())]),
        'needless': ('', lambda: [' '.join(map(str, needless(log.row()))) or 'none']),
        'now': ('', lambda: [document_text(merge_row(log.first(), log.row()))]),
        'first': ('', lambda: [document_text(log.first())]),
        'change': (' ' + text, lambda: [change_text(log.now(), document)])}
    rest, call = calls[kind]
    try:
        answer = call()
    except PatchError as error:
        return kind + rest, ['refused ' + error.__class__.__name__.lower()]
    return kind + rest, DONE if answer is None else answer


def change_text(before, after):
    """The text of the change of two documents."""
    patch = change(before, after)
    assert merge_patch(before, patch) == after
    return document_text(patch)


class Refused(unittest.TestCase):

    def test_no_commands(self):
        for desk in desks():
            before = state(desk)
            for command in NO_COMMANDS:
                with self.subTest(command=command):
                    self.assertEqual(desk.tell(command), BAD_TEXT)
            self.assertEqual(state(desk), before)

    def test_a_blank_more_or_less(self):
        commands = ('begin {"a":1}', 'add {"a":1}', 'squeeze 0 1', 'back', 'row', 'first', 'now', 'at 0', 'effect',
                    'compact', 'needless', 'change {"a":1}')
        for command in commands:
            desk = Desk()
            desk.tell('add {"z":0}')
            before = state(desk)
            self.assertNotEqual(copy.deepcopy(desk).tell(command), BAD_TEXT)
            behind = command.index(' ') if '{' in command else len(command) + 1
            for place in range(behind):
                self.assertEqual(desk.tell(command[:place] + ' ' + command[place:]), BAD_TEXT, (command, place))
            for place in range(len(command)):
                if command[place] == ' ':
                    self.assertEqual(desk.tell(command[:place] + command[place + 1:]), BAD_TEXT, (command, place))
            self.assertEqual(state(desk), before)

    def test_a_word_more_or_less(self):
        for command in ('begin {}', 'add {}', 'squeeze 0 0', 'back', 'row', 'first', 'now', 'at 0', 'effect', 'compact',
                        'needless', 'change {}'):
            for more in ('x', '0', 'row', '{}'):
                self.assertEqual(Desk().tell(command + ' ' + more), BAD_TEXT)
                self.assertEqual(Desk().tell(more + ' ' + command), BAD_TEXT)
            words = command.split(' ')
            for place in range(len(words)):
                self.assertEqual(Desk().tell(' '.join(words[:place] + words[place + 1:])), BAD_TEXT)

    def test_the_state_after_each_refused_command(self):
        deep = '{"k":' * 9 + '1' + '}' * 9
        for desk in desks():
            before = state(desk)
            for command, answer in (
                    ('at 99', 'notime'), ('squeeze 99 99', 'notime'), ('squeeze 0 99', 'notime'),
                    ('squeeze 1 0', 'notime'),
                    ('change {"q":null}', 'nochange'), ('add ' + deep, 'large'), ('begin ' + deep, 'large'),
                    ('change ' + deep, 'large'), ('add ' + json.dumps(wide(201)), 'large'), ('add x', 'badtext')):
                self.assertEqual(desk.tell(command), ['refused ' + answer], command)
                self.assertEqual(state(desk), before)
        full = desks()[2]
        before = state(full)
        for command in ('add 5', 'add {}', 'add ' + json.dumps(wide(200))):
            self.assertEqual(full.tell(command), ['refused large'])
            self.assertEqual(state(full), before)

    def test_malformed_texts_come_before_the_errors_of_check(self):
        self.assertEqual(Desk().tell('add ' + '{"k":' * 9 + '1' + '}' * 8), BAD_TEXT)
        self.assertEqual(Desk().tell('add ' + json.dumps(wide(201))[:-1]), BAD_TEXT)


class Large(unittest.TestCase):

    def test_documents_that_the_row_has_made_large(self):
        desk = Desk()
        row = [{"z" + str(place): place for place in range(199)}]
        self.assertEqual(desk.tell('begin ' + json.dumps(wide(200))), DONE)
        self.assertEqual(desk.tell('add ' + json.dumps(row[0])), DONE)
        now = {**wide(200), **row[0]}
        text = json.dumps(now, sort_keys=True, separators=(",", ":"))
        self.assertEqual(desk.tell('now'), [text])
        self.assertEqual(desk.tell('at 1'), [text])
        gone = json.dumps({key: None for key in now}, sort_keys=True, separators=(",", ":"))
        self.assertEqual(desk.tell('change {}'), [gone])
        self.assertEqual(desk.tell('change {"k0":null}'), ['refused nochange'])
        self.assertEqual(desk.tell('squeeze 0 1'), DONE)
        self.assertEqual(desk.tell('back'), DONE)
        self.assertEqual(desk.tell('now'), [json.dumps(wide(200), sort_keys=True, separators=(",", ":"))])

    def test_deep_documents(self):
        desk = Desk()
        text = document_text(nested(8))
        self.assertEqual(desk.tell('begin ' + text), DONE)
        self.assertEqual(desk.tell('now'), [text])
        self.assertEqual(desk.tell('change ' + text), ['{}'])
        self.assertEqual(desk.tell('add ' + text), DONE)
        self.assertEqual(desk.tell('change ' + text), ['refused nochange'])

    def test_time(self):
        begin = time.perf_counter()
        for patches in (list(range(200)), [{str(place): place} for place in range(100)],
                        [{"k": {str(place): {}}} for place in range(66)]):
            desk = Desk()
            desk.tell('begin ' + json.dumps(wide(200)))
            for patch in patches:
                self.assertEqual(desk.tell('add ' + json.dumps(patch)), DONE)
            for command in ('row', 'first', 'now', 'at 9', 'effect', 'compact', 'needless', 'change {}',
            'squeeze 3 60'):
                self.assertNotIn('refused', desk.tell(command)[0])
            while desk.tell('back') == DONE:
                desk.tell('now')
        desk = Desk()
        for sign in ('a', '\\\\', '"'):
            self.assertIn(desk.tell('add "' + sign * (1990 // len(sign)) + '"'), (DONE, BAD_TEXT))
        self.assertLess(time.perf_counter() - begin, 10)


if __name__ == "__main__":
    unittest.main()
