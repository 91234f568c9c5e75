"""[41]: records of what was done to caches."""

import copy
import random
import unittest

from boundonce.caches import Cache
from boundonce.records import Recorder, is_record, replayed
from tests import cachemodel, samples, worlds
from tests.built import raised
from tests.test_caches import KEY, NAMES, OWN, PATH, REF, ROLE, TOWNS, a_catalog, fresh, make_call, some_statements

CALLS = "enter leave perform begin commit revert ask".split()
SIZES = {"enter": 3, "leave": 1, "perform": 2, "begin": 1, "commit": 1, "revert": 1, "ask": 2}


def a_record():
    """Return a record with each of the seven calls."""
    recorder = Recorder(a_catalog())
    recorder.enter("a", PATH, ROLE)
    recorder.enter("b", ("main",), "kim")
    recorder.ask("a", NAMES)
    recorder.begin("a")
    recorder.perform("a", ("drop fact", *REF))
    recorder.ask("a", NAMES)
    recorder.ask("b", TOWNS)
    recorder.commit("a")
    recorder.perform("b", OWN)
    recorder.begin("b")
    recorder.perform("b", ("drop", "own", "dept"))
    recorder.revert("b")
    recorder.leave("b")
    return recorder


class RecordedTest(unittest.TestCase):
    def test_what_is_recorded(self):
        lean, full = fresh(a_catalog(), NAMES), None
        recorder = a_record()
        rows = recorder.recorded
        full = rows[5][2]
        towns = rows[6][2]
        self.assertNotEqual(lean, full)
        self.assertEqual(rows, [
            ("enter", ("a", PATH, ROLE), None), ("enter", ("b", ("main",), "kim"), None), ("ask", ("a", NAMES), lean), ("begin", ("a",), None),
            ("perform", ("a", ("drop fact", *REF)), ()), ("ask", ("a", NAMES), full), ("ask", ("b", TOWNS), towns), ("commit", ("a",), ((NAMES, PATH, ROLE),)),
            ("perform", ("b", OWN), ((NAMES, PATH, ROLE),)), ("begin", ("b",), None), ("perform", ("b", ("drop", "own", "dept")), ()),
            ("revert", ("b",), None), ("leave", ("b",), None)])
        self.assertIs(type(rows), list)
        self.assertTrue(all([type(row) is tuple and type(row[1]) is tuple for row in rows]))

    def test_calls_that_raise_are_not_recorded(self):
        recorder = a_record()
        rows = recorder.recorded
        for word, arguments in [("enter", ("a", PATH, ROLE)), ("enter", ("c", None, ROLE)), ("leave", ("b",)), ("perform", ("a", None)), ("perform", ("b", OWN)), ("begin", ("c",)), ("commit", ("a",)), ("revert", ("a",)), ("ask", ("a", None)), ("ask", ("b", NAMES))]:
            self.assertIsNotNone(raised(getattr(recorder, word), *arguments), word)
        self.assertEqual(recorder.recorded, rows)
        self.assertEqual(recorder.barred("a", NAMES), [])
        recorder.catalog_for("a")
        recorder.copy()
        self.assertEqual(recorder.recorded, rows)

    def test_leave_while_begun_is_one_call(self):
        recorder = Recorder(a_catalog())
        recorder.enter("a", PATH, ROLE)
        recorder.begin("a")
        recorder.perform("a", OWN)
        recorder.leave("a")
        self.assertEqual([row[0] for row in recorder.recorded], ["enter", "begin", "perform", "leave"])
        self.assertEqual(recorder.shared.next_number, 9)

    def test_arguments_by_name(self):
        recorder = Recorder(catalog=a_catalog())
        recorder.enter(role=ROLE, name="a", path=PATH)
        recorder.begin(name="a")
        recorder.perform(deed=OWN, name="a")
        recorder.commit(name="a")
        self.assertEqual([row[1] for row in recorder.recorded], [("a", PATH, ROLE), ("a",), ("a", OWN), ("a",)])
        self.assertIs(is_record(a_catalog(), recorder.recorded), True)

    def test_a_recorder_is_a_cache(self):
        recorder, cache = Recorder(a_catalog()), Cache(a_catalog())
        self.assertEqual(recorder.recorded, [])
        self.assertFalse(hasattr(cache, "recorded"))
        source = random.Random(5)
        for _ in range(80):
            word, arguments = make_call(source, cache, [NAMES, TOWNS])
            results = []
            for one in (recorder, cache):
                error = raised(getattr(one.copy(), word), *arguments)
                results.append((error, getattr(one, word)(*arguments) if error is None else None, *cachemodel.told_by(one)))
            self.assertEqual(*results)

    def test_what_is_returned_is_new(self):
        recorder = a_record()
        rows = recorder.recorded
        recorder.recorded.clear()
        recorder.recorded.append(None)
        self.assertEqual(recorder.recorded, rows)

    def test_copies(self):
        recorder = a_record()
        rows = recorder.recorded
        other = recorder.copy()
        self.assertIs(type(other), Recorder)
        self.assertEqual(other.recorded, rows)
        other.perform("a", ("grant", "boss", "own", "dept"))
        other.begin("a")
        self.assertEqual([len(other.recorded), recorder.recorded], [15, rows])
        recorder.enter("c", (), ROLE)
        self.assertEqual([len(other.recorded), len(recorder.recorded)], [15, 14])
        third = other.copy()
        third.perform("a", ("drop", "own", "dept"))
        third.commit("a")
        other.revert("a")
        for one in (recorder, other, third):
            self.assertIs(is_record(a_catalog(), one.recorded), True)


class IsRecordTest(unittest.TestCase):
    def check(self, thing, right, catalog=None):
        self.assertIs(is_record(a_catalog() if catalog is None else catalog, thing), right, samples.shown(thing))

    def test_records(self):
        rows = a_record().recorded
        before = copy.deepcopy(rows)
        for size in range(len(rows) + 1):
            self.check(rows[:size], True)
        self.assertEqual(rows, before)
        self.assertIs(is_record(thing=[], catalog=a_catalog()), True)

    def test_rows_left_out_doubled_and_exchanged(self):
        rows = a_record().recorded
        # Without the second session, its asking and all that it does; without what was taken back there.
        for at in range(len(rows)):
            left = rows[:at] + rows[at + 1:]
            self.check(left, self.right(left))
            self.check(rows[:at] + [rows[at]] + rows[at:], self.right(rows[:at] + [rows[at]] + rows[at:]))
            for other in range(at):
                exchanged = list(rows)
                exchanged[at], exchanged[other] = rows[other], rows[at]
                self.check(exchanged, self.right(exchanged))
        self.check(rows[::-1], False)
        self.check(rows[1:], False)
        self.check(rows + rows, False)

    def right(self, rows):
        """Return whether any object is a record: the model of a cache does the same calls with the same results."""
        model = cachemodel.Model(a_catalog())
        if type(rows) is not list:
            return False
        for row in rows:
            if type(row) is not tuple or len(row) != 3 or type(row[0]) is not str or row[0] not in CALLS or type(row[1]) is not tuple:
                return False
            try:
                if len(row[1]) != SIZES[row[0]] or repr(getattr(model, "do_" + row[0])(*row[1])) != repr(row[2]):
                    return False
            except cachemodel.Refused:
                return False
        return True

    def test_parts_that_are_changed(self):
        rows = a_record().recorded
        for at, row in enumerate(rows):
            word, arguments, result = row
            wrong = [list(row), (word, list(arguments), result), (word, arguments), (word, arguments, result, None), (word,), None, word, (word, arguments + (None,), result), (word, arguments[:-1], result), (word, (), result),
                     (word.upper(), arguments, result), (word + " ", arguments, result), ("barred", arguments, result), ("note", arguments, result), ("copy", (), None), ("shared", (), None), (None, arguments, result), (word, arguments[0], result)]
            for other in [None, (), False, 0, [], "", (None,), ((),)]:
                if repr(other) != repr(result):
                    wrong.append((word, arguments, other))
            if word == "ask":
                wrong += [(word, arguments, other) for other in [list(result), (not result[0],) + result[1:], (int(result[0]),) + result[1:], result[:1] + ((False,) + result[1][1:],) + result[2:], result[:3]]]
            if result and word in ("perform", "commit"):
                wrong += [(word, arguments, other) for other in [list(result), result + result, result[0], (list(result[0]),), (result[0][:2],), (result[0][:2] + ("kim",),), ((list(result[0][0]),) + result[0][1:],)]]
            for thing in wrong:
                self.check(rows[:at] + [thing] + rows[at + 1:], False)
            for other in CALLS:
                if other != word:
                    thing = rows[:at] + [(other, arguments, result)] + rows[at + 1:]
                    self.check(thing, self.right(thing))

    def test_another_catalog(self):
        rows = a_record().recorded
        for deeds in [OWN, ("drop fact", *REF), ("drop fact", *KEY), ("drop", "main", "emp"), ("revoke", "boss", "main", "emp")]:
            self.check(rows, False, worlds.tried(a_catalog(), deeds))
        self.check(rows, True, worlds.tried(a_catalog(), ("table", "own", "other", (("a", "text"),))))

    def test_any_objects(self):
        rows = a_record().recorded
        for thing in samples.any_objects() + samples.very_large_objects() + [tuple(rows), {0: rows[0]}, a_record(), a_catalog()]:
            self.check(thing, thing == [] and isinstance(thing, list))
            self.check([thing], False)
            self.check(rows[:2] + [thing], False)
            for word in CALLS:
                self.check([(word, thing, None)], False)
                self.check([(word, (thing,), None)], False)
                self.check(rows[:2] + [(word, ("a", thing), None)], False)
                self.check(rows[:2] + [(word, (thing, ("main",), "boss"), None)], word == "enter" and raised(Cache(a_catalog()).enter, thing, (), ROLE) is None and thing not in ("a", "b"))
            self.check([("enter", ("a", PATH, ROLE), thing)], thing is None)
            self.check([(thing, ("a", PATH, ROLE), None)], False)

    def test_variants(self):
        recorder = Recorder(a_catalog())
        recorder.enter("a", (), ROLE)
        recorder.begin("a")
        recorder.perform("a", ("drop", "main", "emp"))
        seen = {True: 0, False: 0}
        for thing in samples.variants(recorder.recorded):
            right = self.right(thing)
            self.check(thing, right)
            seen[right] += 1
        self.assertGreater(min(seen.values()), 5, seen)

    def test_worlds(self):
        for seed in range(25):
            source = random.Random(seed)
            catalog = worlds.make_catalog(source, 45)
            statements = some_statements(source, catalog)
            recorder = Recorder(catalog)
            recorder.enter("a", ("main", "own", "old"), ROLE)
            for _ in range(60):
                word, arguments = make_call(source, recorder, statements)
                raised(getattr(recorder, word), *arguments)
            rows = recorder.recorded
            self.check(rows, True, catalog)
            again = replayed(catalog, rows)
            self.assertIs(type(again), Recorder)
            self.assertEqual(again.recorded, rows)
            self.assertEqual(cachemodel.told_by(again), cachemodel.told_by(recorder))
            for name in recorder.sessions:
                self.assertEqual(again.catalog_for(name), recorder.catalog_for(name))


class ReplayedTest(unittest.TestCase):
    def test_behind_the_calls(self):
        recorder = a_record()
        rows = recorder.recorded
        again = replayed(record=rows, catalog=a_catalog())
        self.assertIs(type(again), Recorder)
        self.assertEqual(again.recorded, rows)
        self.assertEqual(cachemodel.told_by(again), cachemodel.told_by(recorder))
        again.perform("a", ("drop", "own", "dept"))
        self.assertEqual([len(again.recorded), len(rows)], [14, 13])
        self.assertIs(is_record(a_catalog(), again.recorded), True)
        self.assertEqual(replayed(a_catalog(), []).recorded, [])

    def test_what_is_begun_is_begun_again(self):
        recorder = Recorder(a_catalog())
        recorder.enter("a", PATH, ROLE)
        recorder.enter("b", PATH, ROLE)
        recorder.begin("a")
        recorder.perform("a", OWN)
        again = replayed(a_catalog(), recorder.recorded)
        self.assertEqual(raised(again.perform, "b", OWN), "Busy")
        self.assertEqual(again.catalog_for("a").next_number, 9)
        again.revert("a")
        self.assertEqual([again.shared.next_number, recorder.shared.next_number], [9, 7])
