"""Logs: point [13]."""

import copy
import random
import time
import unittest

from support import Refusing, many_parts, merge_row, nested, random_document, shares, wide
from twopatches.compacting import compact
from twopatches.effects import effect
from twopatches.errors import Large, NoBack, NoDocument, NoTime
from twopatches.logs import Log

PATCHES = [{"a": 1}, {"a": {"b": 2}}, {}, None, {"a": 3, "c": [4]}, {"c": None}]

# A number with more digits than any time has.
HUGE = 10 ** 3999


def log_of(patches, first=None):
    """A log with these patches, and this first document if one is given."""
    log = Log()
    if first is not None:
        log.begin(first)
    for patch in patches:
        log.add(patch)
    return log


def state(log):
    """All that can be asked of a log."""
    row = log.row()
    return (row, log.first(), log.now(), [log.at(time) for time in range(len(row) + 1)], log.many())


class Logging(Refusing):

    def no_time(self, wrong, call, *given):
        with self.assertRaises(NoTime) as raised:
            call(*given)
        self.assertEqual(raised.exception.time, wrong)

    def unchanged(self, log, error, call, *given):
        before = state(log)
        with self.assertRaises(error):
            call(*given)
        self.assertEqual(state(log), before)


class Growing(Logging):

    def test_a_new_log(self):
        log = Log()
        self.assertEqual(state(log), ([], {}, {}, [{}], 0))

    def test_each_log_is_its_own(self):
        one, other = Log(), Log()
        one.add({"a": 1})
        one.begin(5)
        self.assertEqual(state(other), ([], {}, {}, [{}], 0))

    def test_first_documents(self):
        for document in ({}, None, 5, "", [], [None, 1, "x"], {"a": None}, {"a": {"b": {}}}, nested(8), wide(200)):
            log = Log()
            self.assertIsNone(log.begin(document))
            self.assertEqual((log.first(), log.now(), log.at(0), log.row()), (document, document, document, []))

    def test_begin_leaves_the_row_as_it_is(self):
        log = log_of([{"a": {"b": 2}}])
        log.begin({"a": {"c": 1}})
        self.assertEqual(log.row(), [{"a": {"b": 2}}])
        self.assertEqual(log.now(), {"a": {"b": 2, "c": 1}})
        log.begin(None)
        self.assertEqual((log.at(0), log.now()), (None, {"a": {"b": 2}}))

    def test_times(self):
        log = Log()
        for many, patch in enumerate(PATCHES):
            self.assertIsNone(log.add(patch))
            self.assertEqual(log.row(), PATCHES[:many + 1])
            for time in range(many + 2):
                self.assertEqual(log.at(time), merge_row({}, PATCHES[:time]))
            self.assertEqual(log.now(), log.at(many + 1))
            self.assertEqual(log.first(), {})
            self.assertEqual(log.many(), many + 1)

    def test_times_that_do_not_exist(self):
        for many in (0, 1, 6):
            log = log_of(PATCHES[:many])
            for time in (-1, many + 1, many + 2, -many - 1, 999, HUGE, -HUGE):
                self.no_time(time, log.at, time)
                self.unchanged(log, NoTime, log.at, time)

    def test_by_name(self):
        log = Log()
        log.begin(document={"b": 0})
        log.add(patch={"a": 1})
        log.add(patch={"a": 2})
        log.squeeze(begin=0, end=2)
        self.assertEqual(log.at(time=1), {"a": 2, "b": 0})
        log.squeeze(end=1, begin=0)
        self.assertEqual(log.many(), 4)


class Wrong(Logging):

    def test_no_documents(self):
        for wrong, path in ((True, ()), (1.5, ()), ((1,), ()), ([[1]], ()), ({1: 2}, ()), (Log(), ()),
                            ({"b": False, "a": {"c": [True]}}, ("a", "c"))):
            for log in (Log(), log_of(PATCHES)):
                for call in (log.begin, log.add):
                    self.refused(path, call, wrong)
                    self.unchanged(log, NoDocument, call, wrong)

    def test_large_documents(self):
        for wrong, what in ((nested(9), "depth"), (nested(8, {}), "depth"), (wide(201), "parts"),
                            ({**wide(300), "z": nested(8)}, "depth")):
            for log in (Log(), log_of(PATCHES), log_of([wide(200)])):
                for call in (log.begin, log.add):
                    self.large(what, call, wrong)
                    self.unchanged(log, Large, call, wrong)

    def test_rows_with_too_many_parts(self):
        for patches, patch in (([wide(200)], None), ([wide(200)], {}), ([wide(101)], wide(100)), ([5] * 200, 5),
                               ([wide(150), wide(50)], []), ([None], wide(200)), ([{}] * 199, {"a": 1})):
            log = log_of(patches)
            self.large("row", log.add, patch)
            self.unchanged(log, Large, log.add, patch)
            log.back()
            log.add(5)
            self.assertEqual(log.now(), 5)

    def test_a_wrong_patch_for_a_full_row(self):
        log = log_of([wide(200)])
        self.refused((), log.add, True)
        self.large("depth", log.add, nested(9))
        self.large("parts", log.add, wide(201))

    def test_rows_at_the_limit(self):
        for patches in ([wide(200)], [5] * 200, [wide(100), wide(100)], [{}] * 199 + [None], [nested(7, wide(193))]):
            log = log_of(patches)
            self.assertEqual(log.row(), patches)
            self.assertEqual(log.now(), merge_row({}, patches))

    def test_the_first_document_does_not_count_for_the_row(self):
        log = log_of([wide(200)], wide(200))
        self.assertEqual(log.row(), [wide(200)])

    def test_documents_that_the_row_has_made_large(self):
        row = [{"y" + str(place): place for place in range(99)}, {"z" + str(place): {} for place in range(99)}]
        log = log_of(row, wide(200))
        for time, many in ((0, 200), (1, 299), (2, 398)):
            self.assertEqual(many_parts(log.at(time)), many)
            self.assertEqual(log.at(time), merge_row(wide(200), row[:time]))
        log.squeeze(0, 2)
        self.assertEqual(many_parts(log.now()), 398)
        log.back()
        self.assertEqual(log.row(), row)


class Squeeze(Logging):

    def test_all_patches(self):
        log = log_of([{"a": 1}, {"a": {"b": 2}}])
        self.assertIsNone(log.squeeze(0, 2))
        self.assertEqual((log.row(), log.now(), log.many()), ([{"a": None}, {"a": {"b": 2}}], {"a": {"b": 2}}, 3))

    def test_each_begin_and_end(self):
        for begin in range(len(PATCHES) + 1):
            for end in range(begin, len(PATCHES) + 1):
                log = log_of(PATCHES, {"a": {"z": 1}, "d": 0})
                row = PATCHES[:begin] + compact(PATCHES[begin:end]) + PATCHES[end:]
                now = log.now()
                log.squeeze(begin, end)
                self.assertEqual(log.row(), row)
                self.assertEqual(log.first(), {"a": {"z": 1}, "d": 0})
                self.assertEqual(log.now(), now)
                for time in range(len(row) + 1):
                    self.assertEqual(log.at(time), merge_row(log.first(), row[:time]))
                self.assertEqual(effect(log.row()), effect(PATCHES))
                self.assertEqual(log.many(), len(PATCHES) + (1 if row == PATCHES else 2))

    def test_no_patch_is_no_change(self):
        for log in (Log(), log_of(PATCHES)):
            for place in range(len(log.row()) + 1):
                before = state(log)
                log.squeeze(place, place)
                self.assertEqual(state(log), before)

    def test_what_is_compact_already_is_no_change(self):
        log = log_of(PATCHES)
        before = state(log)
        for place in range(len(PATCHES)):
            log.squeeze(place, place + 1)
            self.assertEqual(state(log), before)
        log.squeeze(0, 6)
        before = state(log)
        log.squeeze(0, len(log.row()))
        self.assertEqual(state(log), before)

    def test_places_that_do_not_exist(self):
        for many in (0, 1, 6):
            log = log_of(PATCHES[:many])
            for wrong in (-1, many + 1, -many - 1, 999, HUGE, -HUGE):
                for other in (0, many, wrong, -wrong, 77):
                    self.no_time(wrong, log.squeeze, wrong, other)
                    self.unchanged(log, NoTime, log.squeeze, wrong, other)
                for begin in range(many + 1):
                    self.no_time(wrong, log.squeeze, begin, wrong)
                    self.unchanged(log, NoTime, log.squeeze, begin, wrong)

    def test_an_end_before_the_begin(self):
        log = log_of(PATCHES)
        for begin in range(1, len(PATCHES) + 1):
            for end in range(begin):
                self.no_time(end, log.squeeze, begin, end)
                self.unchanged(log, NoTime, log.squeeze, begin, end)
        # Of two wrong ones, begin comes first.
        self.no_time(7, log.squeeze, 7, 3)
        self.no_time(7, log.squeeze, 7, -1)

    def test_a_squeeze_makes_room(self):
        log = log_of([{"a": 1, "b": 2}] * 66)
        self.large("row", log.add, {"c": 1, "d": 1})
        log.squeeze(0, 66)
        log.add({"c": 1, "d": 1})
        self.assertEqual(log.row(), [{"a": 1, "b": 2}, {"c": 1, "d": 1}])


class Back(Logging):

    def test_nothing_to_undo(self):
        log = Log()
        self.unchanged(log, NoBack, log.back)
        log.add(5)
        log.back()
        self.unchanged(log, NoBack, log.back)

    def test_after_each_kind_of_change(self):
        for first in ({}, {"a": 7}, 5):
            log = log_of(PATCHES, first)
            for change in (lambda: log.begin({"z": 1}), lambda: log.begin(None), lambda: log.add({"y": 1}),
                           lambda: log.add({}), lambda: log.squeeze(0, 6), lambda: log.squeeze(1, 3),
                           lambda: log.squeeze(0, 4)):
                before = state(log)
                change()
                self.assertEqual(log.many(), before[-1] + 1)
                self.assertNotEqual(state(log), before)
                self.assertIsNone(log.back())
                self.assertEqual(state(log), before)

    def test_all_the_way(self):
        log = Log()
        states = [state(log)]
        for change in (lambda: log.add({"a": 1}), lambda: log.begin({"b": 1}), lambda: log.add({"a": {"b": 2}}),
                       lambda: log.squeeze(0, 2), lambda: log.begin(5), lambda: log.add({"a": {"c": 1}}),
                       lambda: log.squeeze(1, 3), lambda: log.begin({}), lambda: log.squeeze(0, 2)):
            change()
            states.append(state(log))
            self.assertEqual(log.many(), states[-2][-1] + (1 if states[-1][:2] != states[-2][:2] else 0))
        many = log.many()
        kept = [one for place, one in enumerate(states) if place == 0 or one != states[place - 1]]
        self.assertEqual(many, len(kept) - 1)
        for one in reversed(kept[:-1]):
            log.back()
            self.assertEqual(state(log), one)
        self.unchanged(log, NoBack, log.back)

    def test_a_begin_that_changes_nothing(self):
        log = Log()
        log.begin({})
        self.assertEqual(log.many(), 0)
        log.begin({"a": {"b": 1}, "c": [None]})
        log.begin({"c": [None], "a": {"b": 1}})
        self.assertEqual(log.many(), 1)
        log.back()
        self.assertEqual(state(log), state(Log()))

    def test_an_undone_change_is_gone(self):
        log = log_of([{"a": 1}, {"b": 1}])
        log.back()
        log.add({"c": 1})
        self.assertEqual((log.row(), log.many()), ([{"a": 1}, {"c": 1}], 2))
        log.back()
        log.back()
        self.assertEqual(state(log), state(Log()))

    def test_what_does_not_change_anything_does_not_count(self):
        log = log_of(PATCHES[:3])
        log.back()
        for call in (log.row, log.first, log.now, log.many, lambda: log.at(1), lambda: log.squeeze(1, 1)):
            call()
        for wrong in (lambda: log.add(True), lambda: log.begin(True), lambda: log.at(9), lambda: log.squeeze(9, 9)):
            with self.assertRaises(ValueError):
                wrong()
        self.assertEqual(log.many(), 2)
        log.back()
        self.assertEqual(log.row(), PATCHES[:1])

    def test_random_changes(self):
        chance = random.Random(13)
        for _ in range(60):
            log, first, row, past = Log(), {}, [], []
            for _ in range(60):
                before = (first, row)
                kind = chance.choice(["begin", "add", "add", "add", "squeeze", "back"])
                if kind == "back":
                    if not past:
                        self.unchanged(log, NoBack, log.back)
                    else:
                        log.back()
                        before = first, row = past.pop()
                elif kind == "begin":
                    first = random_document(chance, 2)
                    log.begin(first)
                elif kind == "add":
                    patch = random_document(chance, 2)
                    row = row + [patch]
                    log.add(patch)
                else:
                    begin = chance.randint(0, len(row))
                    end = chance.randint(begin, len(row))
                    row = row[:begin] + compact(row[begin:end]) + row[end:]
                    log.squeeze(begin, end)
                if (first, row) != before:
                    past.append(before)
                time = chance.randint(0, len(row))
                self.assertEqual((log.first(), log.row(), log.many()), (first, row, len(past)))
                self.assertEqual((log.at(time), log.now()), (merge_row(first, row[:time]), merge_row(first, row)))


class Given(Logging):

    def test_later_changes_have_no_effect(self):
        items = [1]
        first, patch = {"a": items, "b": {"c": items}}, {"d": {"e": items}, "f": items}
        log = log_of([patch, patch], first)
        before = copy.deepcopy(state(log))
        items.append(2)
        first["b"]["g"] = patch["d"]["g"] = first["h"] = patch["h"] = 9
        self.assertEqual(state(log), before)

    def test_arguments_stay_as_they_are(self):
        first, patch = {"a": [1], "b": {"c": None}}, {"b": {"c": None, "d": [2]}}
        given = copy.deepcopy([first, patch])
        log = log_of([patch, {"b": 1}, patch], first)
        log.squeeze(0, 3)
        log.now()
        self.assertEqual([first, patch], given)

    def test_results_are_new(self):
        items = [1]
        first, patch = {"a": items, "b": {"c": items}}, {"d": {"e": items}, "f": items}
        for squeezed in (False, True):
            log = log_of([patch, {"d": None}, patch], first)
            if squeezed:
                log.squeeze(0, 3)
            asked = (log.row, log.first, log.now, lambda: log.at(0), lambda: log.at(1), lambda: log.at(2))
            for call in asked:
                one, other = call(), call()
                self.assertEqual(one, other)
                # As members, whose lists and dictionaries shares looks at.
                named = [{str(place): part for place, part in enumerate(result if call == log.row else [result])}
                         for result in (one, other)]
                self.assertFalse(shares(named[0], [first, patch, named[1]]))
                self.assertIsNot(one, other)

    def test_changed_results_do_not_change_the_log(self):
        log = log_of([{"a": [1], "b": {"c": 2}}, {"b": {"d": [3]}}], {"e": [4], "f": {}})
        before = copy.deepcopy(state(log))
        row, first, now, at = log.row(), log.first(), log.now(), log.at(1)
        row[0]["a"].append(9)
        row[1]["b"]["d"].append(9)
        row.append(9)
        first["e"].append(9)
        first["f"]["g"] = 9
        now["e"].append(9)
        now["b"]["d"].append(9)
        now["h"] = 9
        at["a"].append(9)
        at["b"]["c"] = 9
        self.assertEqual(state(log), before)
        log.squeeze(0, 2)
        log.row()[0]["a"].append(9)
        self.assertEqual(log.now(), before[2])
        log.back()
        self.assertEqual(state(log), before)

    def test_a_row_is_a_list_each_time(self):
        log = Log()
        self.assertEqual(log.row(), [])
        self.assertIsNot(log.row(), log.row())
        log.row().append(5)
        self.assertEqual(log.row(), [])


class Time(unittest.TestCase):

    def test_a_log_of_200_patches(self):
        begin = time.perf_counter()
        for patches in (list(range(200)), [{str(place): place} for place in range(100)],
                        [{"k": {str(place): {}}} for place in range(66)]):
            log = log_of(patches, wide(200))
            for time_of in range(len(patches) + 1):
                log.at(time_of)
            while len(log.row()) > 2:
                log.squeeze(len(log.row()) - 3, len(log.row()))
            self.assertEqual(log.now(), merge_row(wide(200), patches))
            while log.many():
                log.back()
        self.assertLess(time.perf_counter() - begin, 10)


if __name__ == "__main__":
    unittest.main()
