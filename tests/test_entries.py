"""[29]: whether entries are enough, and deeds that break them."""

import copy
import itertools
import random
import unittest

from boundonce.bindings import binding_of
from boundonce.catalogs import Catalog
from boundonce.deeds import after_deed, after_deeds, is_deed
from boundonce.entries import breaking_deed, is_enough, is_parting, parting_deed
from boundonce.errors import BoundError
from boundonce.names import is_name
from boundonce.texts import read
from boundonce.watch import holds, is_entry, watch_of
from tests import samples, worlds
from tests.built import catalog_of, function, raised, table, view
from tests.test_watch import bound_or_none

PATH, ROLE = ("own", "main"), "boss"


def everything():
    """Return a catalog and a statement whose watch has entries of all nine forms."""
    catalog = catalog_of(
        *table("main.t", "x, y word", "boss"), *table("main.u", "k", "boss"), *function("main.f", "text"), ("rule", "boss", "main", "u", "k", ("a", "b")),
        *view("main.v", "select y as z from t", "main", "boss"))
    return catalog, read("select u.*, x, f(y) as l from t, u where x = k and y in ('a')")


class EntriesCase(unittest.TestCase):
    def check_deed(self, catalog, deed):
        """It is a deed such as these calls return."""
        self.assertIs(is_deed(deed), True, deed)
        self.assertNotEqual(deed[0], "view")
        if deed[0] == "table":
            self.assertEqual(len(deed[3]), 1)
        if deed[0] == "rule":
            self.assertTrue(all([is_name(value) for value in deed[5]]))
        return after_deed(catalog, deed)

    def check_breaking(self, arguments):
        """For each entry of the watch there is a deed behind which it alone does not hold."""
        watch = watch_of(*arguments)
        for entry in watch:
            behind = self.check_deed(arguments[0], breaking_deed(*arguments, entry))
            self.assertEqual([other for other in watch if not holds(behind, other)], [entry])
            self.assertNotEqual(bound_or_none(behind, *arguments[1:]), binding_of(*arguments))
        return watch

    def check_list(self, arguments, entries, enough):
        """The list is enough, or there is a deed that parts."""
        before = copy.deepcopy(entries)
        self.assertIs(is_enough(*arguments, entries), enough, entries)
        deed = parting_deed(*arguments, entries)
        self.assertEqual(entries, before)
        self.assertIs(deed is None, enough, entries)
        if deed is not None:
            behind = self.check_deed(arguments[0], deed)
            self.assertTrue(all([holds(behind, entry) for entry in entries]))
            self.assertNotEqual(bound_or_none(behind, *arguments[1:]), binding_of(*arguments))
            self.assertIs(is_parting(*arguments, entries, deed), True)


class BreakingTest(EntriesCase):
    def test_entries_of_all_forms(self):
        catalog, statement = everything()
        watch = self.check_breaking((catalog, statement, PATH, ROLE))
        self.assertEqual({entry[0] for entry in watch}, set("at free column bare columns function unmade right rule".split()))

    def test_where_others_hold_that_are_near(self):
        # Many names are free, bare or unmade, and must stay so.
        deeds = [("rename", "main", "t", "a"), ("rename column", "main", "a", "x", "b"), ("rename function", "main", "f", ("text",), "a")]
        catalog = after_deeds(everything()[0], deeds)
        self.check_breaking((catalog, read("select c.b, d.y, a(d.b) as e from a c, a d, u where c.b = k"), ("c", "d", "own", "main", "e", "f"), ROLE))
        self.check_breaking((catalog, read("select u.*, a.* from u, a"), ("main",), ROLE))

    def test_what_is_not_in_the_watch(self):
        catalog, statement = everything()
        arguments = (catalog, statement, PATH, ROLE)
        watch = watch_of(*arguments)
        others = [("free", "own", "x"), ("at", "main", "v", 6), ("bare", 0, "z"), ("right", "boss", 6), ("rule", "boss", 3, None), ("column", 3, "k", 4), ("at", "main", "t", False)]
        for thing in others + samples.any_objects() + samples.very_large_objects() + [watch, [watch[0]], (watch[0],)]:
            self.assertEqual(raised(breaking_deed, *arguments, thing), "InvalidEntry", samples.shown(thing))
        for thing in samples.variants(watch[0]) + samples.variants(watch[-1]):
            known = repr(thing) in [repr(entry) for entry in watch]
            self.assertEqual(raised(breaking_deed, *arguments, thing), None if known else "InvalidEntry", thing)

    def test_a_catalog_of_one_type(self):
        catalog = after_deeds(Catalog(("text",)), [*table("main.t", "x", "boss"), *table("main.u", "y", "boss"), *function("main.f", "text")])
        self.check_breaking((catalog, read("select f(x) as k, t.* from t, u where y = x"), PATH, ROLE))
        self.check_breaking((catalog, read("select f(x) as k, y from t, u"), PATH, ROLE))

    def test_worlds(self):
        seen = {}
        for arguments in worlds_arguments(100, 6):
            for entry in self.check_breaking(arguments):
                seen[entry[0]] = seen.get(entry[0], 0) + 1
        self.assertTrue(len(seen) == 9 and min(seen.values()) > 10, seen)


class EnoughTest(EntriesCase):
    def setUp(self):
        catalog, statement = everything()
        self.arguments = (catalog, statement, PATH, ROLE)
        self.watch = watch_of(*self.arguments)

    def test_the_watch_is_enough_in_any_order(self):
        for entries in [self.watch, self.watch[::-1], self.watch + self.watch, self.watch[3:] + self.watch[:3]]:
            self.check_list(self.arguments, entries, True)

    def test_without_an_entry(self):
        for entry in self.watch:
            rest = [other for other in self.watch if other != entry]
            self.check_list(self.arguments, rest, False)
            self.check_list(self.arguments, rest * 2, False)

    def test_the_empty_list(self):
        self.check_list(self.arguments, [], False)

    def test_the_columns_of_a_table_tell_its_columns(self):
        arguments = (self.arguments[0], read("select x, y from t, u where x = k"), PATH, ROLE)
        watch = watch_of(*arguments)
        rest = [entry for entry in watch if entry[0] not in ("column", "bare")]
        whole = [("columns", 0, (("x", 1), ("y", 2))), ("columns", 3, (("k", 4),))]
        self.check_list(arguments, watch, True)
        self.check_list(arguments, rest, False)
        self.check_list(arguments, rest + whole, True)
        for other, entries in [(whole[0], [entry for entry in watch if entry[0] in ("column", "bare") and entry[1] == 3]), (whole[1], [entry for entry in watch if entry[0] in ("column", "bare") and entry[1] == 0])]:
            self.check_list(arguments, rest + [other], False)
            self.check_list(arguments, rest + [other] + entries, True)
            for entry in entries:
                self.check_list(arguments, rest + [other] + [one for one in entries if one != entry], False)

    def test_columns_and_bare_do_not_tell_all_columns(self):
        entries = [entry for entry in self.watch if entry[0] != "columns"] + [("column", 3, "k", 4), ("bare", 3, "a"), ("bare", 3, "b"), ("bare", 3, "x")]
        self.check_list(self.arguments, entries, False)
        self.check_list(self.arguments, entries + [("columns", 3, (("k", 4),))], True)

    def test_further_entries_that_hold(self):
        further = [("free", "own", "x"), ("unmade", "own", "g", ("text",)), ("right", "boss", 7), ("at", "main", "v", 7), ("rule", "kim", 0, None), ("bare", 0, "z"),
                   ("columns", 0, (("x", 1), ("y", 2))), ("function", "main", "f", ("text",), 5)]
        further = [entry for entry in further if holds(self.arguments[0], entry)]
        self.check_list(self.arguments, self.watch + further, True)
        self.check_list(self.arguments, further, False)
        near = [("free", schema, letter) for schema in ("own", "main") for letter in "abcdefghijklmn"]
        near += [("bare", 0, letter) for letter in "abcdefghijlmn"] + [("unmade", "main", letter, ("text",)) for letter in "abcdeghijklmn"]
        # The words that come next are "as" and "in", which are no names.
        words = [one + other for one in "abcdefghi" for other in "abcdefghijklmnopqrstuvwxyz"]
        far = [("free", "old", word) for word in list("opqrstuvwxyz") + words if word not in ("as", "in")]
        for more in ([], far[:far.index(("free", "old", "ar")) + 1], far[:far.index(("free", "old", "im")) + 1]):
            for entry in self.watch:
                self.check_list(self.arguments, near + more + [other for other in self.watch if other != entry], False)

    def test_lists_that_are_not_of_entries_that_hold(self):
        calls = [is_enough, parting_deed, lambda *arguments: is_parting(*arguments, ("drop", "main", "t"))]
        wrong = [("at", "own", "t", 0), ("free", "main", "t"), ("bare", 0, "x"), ("right", "kim", 0), ("rule", "boss", 0, (1, ("a",))), ("at", "main", "t", False), ("at", "main", "t"), ["at", "main", "t", 0]]
        for call in calls:
            for thing in [tuple(self.watch), {}, None, 0, True, self.watch[0], "at", ((),)]:
                self.assertEqual(raised(call, *self.arguments, thing), "InvalidEntry")
            for thing in wrong + [thing for thing in samples.any_objects()] + samples.very_large_objects():
                self.assertEqual(raised(call, *self.arguments, [thing]), "InvalidEntry", samples.shown(thing))
                self.assertEqual(raised(call, *self.arguments, self.watch + [thing]), "InvalidEntry")
                if thing != []:
                    self.assertEqual(raised(call, *self.arguments, thing), "InvalidEntry")

    def test_numbers_that_are_true_or_false(self):
        catalog = catalog_of(*function("main.f", "text"), *function("main.g", "text"), *table("main.t", "x", "boss"))
        arguments = (catalog, read("select f(g(x)) as a from t"), PATH, ROLE)
        watch = watch_of(*arguments)
        for name, number, wrong in [("f", 0, False), ("g", 1, True)]:
            entry = ("function", "main", name, ("text",), number)
            self.assertIn(entry, watch)
            self.assertIsNone(raised(is_enough, *arguments, [entry]))
            self.assertEqual(raised(is_enough, *arguments, [entry[:4] + (wrong,)]), "InvalidEntry")
            self.assertEqual(raised(breaking_deed, *arguments, entry[:4] + (wrong,)), "InvalidEntry")
        catalog = catalog_of(*table("main.t", "x", "boss"))
        for entry in watch_of(catalog, read("select t.*, t.x from t"), PATH, ROLE) + [("column", 0, "x", 1), ("bare", 0, "y")]:
            self.assertIs(holds(catalog, entry), True)
            for at, part in enumerate(entry):
                if type(part) is int:
                    wrong = entry[:at] + (bool(part),) + entry[at + 1:]
                    self.assertEqual(raised(is_enough, catalog, read("select x from t"), PATH, ROLE, [wrong]), "InvalidEntry", wrong)
        self.assertEqual(raised(is_enough, catalog, read("select x from t"), PATH, ROLE, [("columns", 0, (("x", True),))]), "InvalidEntry")
        self.assertIsNone(raised(is_enough, catalog, read("select x from t"), PATH, ROLE, [("columns", 0, (("x", 1),))]))

    def test_entries_with_a_part_changed(self):
        others = [("rule", "kim", 0, None), ("rule", "boss", 0, None), ("columns", 0, (("x", 1), ("y", 2))), ("unmade", "own", "f", ("text", "text"))]
        seen = {True: 0, False: 0}
        catalog = self.arguments[0]
        for entry in self.watch + [other for other in others if other not in self.watch]:
            self.assertIs(holds(catalog, entry), True, entry)
            for thing in samples.variants(entry) + [entry + (part,) for part in (None, 0, "a", ())]:
                right = is_entry(thing) and holds(catalog, thing)
                seen[right] += 1
                for call in (is_enough, parting_deed, lambda *arguments: is_parting(*arguments, None)):
                    self.assertEqual(raised(call, *self.arguments, [thing]), None if right else "InvalidEntry", thing)
                if not right:
                    self.assertEqual(raised(breaking_deed, *self.arguments, thing), "InvalidEntry", thing)
        self.assertGreater(min(seen.values()), 100, seen)

    def test_worlds(self):
        seen = {True: 0, False: 0}
        source = random.Random(1)
        for arguments in worlds_arguments(60, 6):
            watch = watch_of(*arguments)
            for _ in range(6):
                entries = make_entries(source, arguments[0], watch)
                enough = is_enough(*arguments, entries)
                seen[enough] += 1
                self.check_list(arguments, entries, enough)
                if enough:
                    self.check_no_deed_parts(source, arguments, entries)
        self.assertTrue(seen[True] > 100 and seen[False] > 100, seen)

    def check_no_deed_parts(self, source, arguments, entries):
        binding, catalog = binding_of(*arguments), arguments[0]
        for _ in range(8):
            deed = worlds.make_deed(source, 0.5)
            self.assertIs(is_parting(*arguments, entries, deed), False)
            catalog = worlds.tried(catalog, deed)
            if all([holds(catalog, entry) for entry in entries]):
                self.assertEqual(bound_or_none(catalog, *arguments[1:]), binding)


class PartingTest(EntriesCase):
    def setUp(self):
        catalog, statement = everything()
        self.arguments = (catalog, statement, PATH, ROLE)
        self.watch = watch_of(*self.arguments)

    def check(self, deed, parts, entries=()):
        self.assertIs(is_parting(*self.arguments, list(entries), deed), parts, deed)

    def test_deeds_that_part(self):
        one = (False, (("column", (None, "k"), "k"),), ((None, "u", "u"),), ())
        for deed in [("drop", "main", "t"), ("rename", "main", "t", "w"), ("table", "own", "t", (("x", "text"),)), ("view", "own", "t", one, ("main",)), ("view", "own", "u", one, ("main",)),
                     ("column", "main", "u", "a", "num"), ("rename column", "main", "t", "x", "a"), ("rename column", "main", "u", "k", "x"), ("drop column", "main", "t", "y"),
                     ("function", "own", "f", ("word",), "num"), ("function", "main", "f", ("word",), "text"), ("drop function", "main", "f", ("text",)), ("revoke", "boss", "main", "t"),
                     ("rule", "boss", "main", "t", "x", ("a",)), ("rule", "boss", "main", "u", "k", ("b",)), ("drop rule", "boss", "main", "u")]:
            self.assertIs(is_deed(deed), True)
            self.check(deed, True)
            behind = after_deed(self.arguments[0], deed)
            broken = [entry for entry in self.watch if not holds(behind, entry)]
            self.assertGreater(len(broken), 0)
            self.check(deed, True, [entry for entry in self.watch if entry not in broken])
            for entry in broken:
                self.check(deed, False, [entry])
            self.check(deed, False, self.watch)

    def test_deeds_that_do_not(self):
        one = (False, (("column", (None, "k"), "k"),), ((None, "u", "u"),), ())
        for deed in [("table", "main", "w", (("x", "text"),)), ("view", "main", "w", one, ()), ("column", "main", "t", "z", "text"), ("function", "main", "f", ("num",), "text"), ("drop", "main", "v"),
                     ("rule", "kim", "main", "t", "x", ("a",)), ("fact", "main", "t", ("key", ("x",))), ("rule", "boss", "main", "u", "k", ("a", "b")), ("grant", "kim", "main", "t"),
                     ("function", "main", "g", ("word",), "text"), ("function", "main", "f", ("word", "word"), "text"), ("function", "old", "f", ("word",), "text")]:
            self.assertIs(is_deed(deed), True)
            after_deed(self.arguments[0], deed)
            self.check(deed, False)

    def test_what_cannot_be_done(self):
        for deed in [("drop", "main", "nothing"), ("table", "main", "t", (("x", "text"),)), ("drop column", "main", "u", "k"), ("grant", "boss", "main", "t"), ("column", "main", "u", "a", "nothing"),
                     ("drop rule", "boss", "main", "t"), ["drop", "main", "t"], ("drop", "main"), ("drop", "main", "t", "t")]:
            self.assertIsNotNone(raised(after_deed, self.arguments[0], deed))
            self.check(deed, False)

    def test_any_objects(self):
        for thing in samples.any_objects() + samples.very_large_objects():
            self.check(thing, False)
            self.check(("drop", "main", thing), False)
        for thing in samples.variants(("rename", "main", "t", "w")):
            right = is_deed(thing) and raised(after_deed, self.arguments[0], thing) is None
            self.check(thing, right)

    def test_worlds(self):
        seen = {True: 0, False: 0}
        source = random.Random(2)
        for arguments in worlds_arguments(60, 4):
            watch, binding = watch_of(*arguments), binding_of(*arguments)
            for _ in range(12):
                entries, deed = make_entries(source, arguments[0], watch), worlds.make_deed(source, 0.6)
                if source.random() < 0.5:
                    deed = breaking_deed(*arguments, source.choice(watch))
                try:
                    behind = after_deed(arguments[0], deed)
                    parts = all([holds(behind, entry) for entry in entries]) and bound_or_none(behind, *arguments[1:]) != binding
                except BoundError:
                    parts = False
                seen[parts] += 1
                self.assertIs(is_parting(*arguments, entries, deed), parts)
        self.assertTrue(seen[True] > 20 and seen[False] > 100, seen)


class ErrorsTest(unittest.TestCase):
    def test_the_errors_of_binding_of_come_first(self):
        catalog, statement = everything()
        calls = [breaking_deed, is_enough, parting_deed, lambda *arguments: is_parting(*arguments, None)]
        for arguments in [(None, None, None), (statement, ["main"], None), (statement, PATH, "in"), (statement, (), ROLE), (statement, PATH, "kim"), (read("select nothing from t"), PATH, ROLE),
                          (read("select x from t where y = x"), PATH, ROLE)]:
            word = raised(binding_of, catalog, *arguments)
            self.assertIsNotNone(word)
            for call, thing in itertools.product(calls, [None, [], ("at", "main", "t", 0), [None]]):
                self.assertEqual(raised(call, catalog, *arguments, thing), word)

    def test_by_name(self):
        catalog, statement = everything()
        named = {"role": ROLE, "path": PATH, "statement": statement, "catalog": catalog}
        self.assertIs(is_deed(breaking_deed(entry=("at", "main", "t", 0), **named)), True)
        self.assertIs(is_enough(entries=[], **named), False)
        self.assertIs(is_deed(parting_deed(entries=[], **named)), True)
        self.assertIs(is_parting(thing=("drop", "main", "t"), entries=[], **named), True)


def worlds_arguments(seeds, many):
    """Return a list of the arguments (catalog, statement, path, role) of statements that bind."""
    found = []
    for seed in range(seeds):
        source = random.Random(seed)
        catalog = worlds.make_catalog(source, 45)
        for _ in range(many * 4):
            arguments = (catalog, *worlds.make_any(source, catalog))
            if bound_or_none(*arguments) is not None and len(found) < (seed + 1) * many:
                found.append(arguments)
    return found


def make_entries(source, catalog, watch):
    """Return any list of entries that hold, of which most are in the watch."""
    share = source.choice([0.5, 0.9, 1.0, 1.0])
    found = [entry for entry in watch if source.random() < share]
    for number in worlds.tables_of(catalog):
        columns = catalog.thing_of(number)[3]
        found.append(("columns", number, tuple([(catalog.thing_of(column)[2], column) for column in columns])))
        found += [("bare", number, name) for name in ["a", "b", "x", "k"]] + [("rule", role, number, catalog.rule_for(role, number)) for role in worlds.ROLES]
    found += [("free", schema, name) for schema in worlds.SCHEMAS for name in ["a", "b", "t", "u"]]
    found += [("unmade", schema, "f", (kind,)) for schema in worlds.SCHEMAS for kind in worlds.TYPES]
    found = [entry for entry in found if entry in watch or (source.random() < 0.2 and holds(catalog, entry))]
    source.shuffle(found)
    return found
