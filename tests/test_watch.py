"""[28]: the watch of a statement."""

import copy
import random
import unittest

from boundonce.bindings import binding_of
from boundonce.deeds import after_deed, after_deeds
from boundonce.errors import BoundError
from boundonce.texts import read
from boundonce.watch import holds, is_entry, watch_of
from tests import samples, worlds
from tests.built import catalog_of, function, raised, table, view


class WatchCase(unittest.TestCase):
    def watches(self, catalog, text, path, entries, role="boss"):
        found = watch_of(catalog, read(text), tuple(path.split()), role)
        self.assertEqual(found, sorted(set(entries)))
        for entry in found:
            self.assertIs(is_entry(entry), True, entry)
            self.assertIs(holds(catalog, entry), True, entry)


class SourcesTest(WatchCase):
    def setUp(self):
        self.catalog = catalog_of(*table("main.t", "x, y", "boss"), *table("own.u", "x, z", "boss"),
                                  ("rule", "boss", "own", "u", "z", ("a", "b")), ("rule", "kim", "main", "t", "x", ("a",)))

    def test_with_a_schema(self):
        for path in ("", "own", "a b c d e f"):
            self.watches(self.catalog, "select x from main.t", path,
                         [("at", "main", "t", 0), ("column", 0, "x", 1), ("right", "boss", 0), ("rule", "boss", 0, None)])

    def test_schemas_ahead(self):
        rest = [("at", "main", "t", 0), ("column", 0, "x", 1), ("right", "boss", 0), ("rule", "boss", 0, None)]
        self.watches(self.catalog, "select x from t", "main own", rest)
        self.watches(self.catalog, "select x from t", "own old main new", rest + [("free", "own", "t"), ("free", "old", "t")])
        self.watches(self.catalog, "select x from t", "a b c d e main", rest + [("free", schema, "t") for schema in "abcde"])

    def test_rules(self):
        self.watches(self.catalog, "select u.x from own.u", "",
                     [("at", "own", "u", 3), ("column", 3, "x", 4), ("right", "boss", 3), ("rule", "boss", 3, (5, ("a", "b")))])

    def test_several_sources_each_entry_once(self):
        self.watches(self.catalog, "select a.x, b.x as k, a.x as l from t a, t b, own.u where a.y = b.y", "old main",
                     [("at", "main", "t", 0), ("at", "own", "u", 3), ("column", 0, "x", 1), ("column", 0, "y", 2), ("free", "old", "t"),
                      ("right", "boss", 0), ("right", "boss", 3), ("rule", "boss", 0, None), ("rule", "boss", 3, (5, ("a", "b")))])


class ColumnsTest(WatchCase):
    def setUp(self):
        self.catalog = catalog_of(*table("main.t", "x, y", "boss"), *table("main.u", "k, l", "boss"), *view("main.v", "select y as z from t", "main", "boss"))
        self.rest = [("at", "main", "t", 0), ("at", "main", "u", 3), ("right", "boss", 0), ("right", "boss", 3), ("rule", "boss", 0, None), ("rule", "boss", 3, None)]

    def check(self, text, entries, rest=None):
        self.watches(self.catalog, text, "main", (self.rest if rest is None else rest) + entries)

    def test_with_a_label(self):
        self.check("select t.x from t, u", [("column", 0, "x", 1)])
        self.check("select 'a' as b from t, u where t.x = u.k and u.l in ('a')", [("column", 0, "x", 1), ("column", 3, "k", 4), ("column", 3, "l", 5)])

    def test_without_a_label(self):
        self.check("select x from t, u", [("column", 0, "x", 1), ("bare", 3, "x")])
        self.check("select k from t, u where x = l", [("column", 0, "x", 1), ("bare", 3, "x"), ("column", 3, "k", 4), ("bare", 0, "k"), ("column", 3, "l", 5), ("bare", 0, "l")])
        self.check("select t.x from t, u where y in ('a')", [("column", 0, "x", 1), ("column", 0, "y", 2), ("bare", 3, "y")])
        self.watches(self.catalog, "select x from t", "main", [("at", "main", "t", 0), ("right", "boss", 0), ("rule", "boss", 0, None), ("column", 0, "x", 1)])

    def test_columns_of_views(self):
        view_rest = [("at", "main", "t", 0), ("at", "main", "v", 6), ("column", 0, "y", 2), ("right", "boss", 6), ("rule", "boss", 0, None)]
        self.watches(self.catalog, "select z, v.z as k from v", "main", view_rest)
        self.watches(self.catalog, "select v.* from v where z = v.z", "main", view_rest)
        self.check("select z from v, t, u", view_rest + [("bare", 0, "z"), ("bare", 3, "z")], self.rest)
        self.check("select v.z, x, k from u, v, t", view_rest + [("column", 0, "x", 1), ("bare", 3, "x"), ("column", 3, "k", 4), ("bare", 0, "k")], self.rest)

    def test_stars(self):
        whole = ("columns", 0, (("x", 1), ("y", 2)))
        self.check("select t.* from t, u", [whole])
        self.check("select t.*, x, t.y as z, u.k from t, u where x = k", [whole, ("bare", 3, "x"), ("column", 3, "k", 4)])
        self.check("select t.*, k, u.*, x from t, u", [whole, ("columns", 3, (("k", 4), ("l", 5)))])
        self.watches(self.catalog, "select a.*, b.x from t a, t b", "main", [("at", "main", "t", 0), ("right", "boss", 0), ("rule", "boss", 0, None), whole])

    def test_a_star_counts_for_views_too(self):
        catalog = catalog_of(*table("main.t", "x, y", "boss"), *table("main.u", "k"), *view("main.v", "select x, k from t, u", "old main", "boss"))
        rest = [("at", "main", "t", 0), ("at", "main", "u", 3), ("at", "main", "v", 5), ("free", "old", "t"), ("free", "old", "u"), ("column", 3, "k", 4),
                ("bare", 3, "x"), ("right", "boss", 5), ("rule", "boss", 0, None), ("rule", "boss", 3, None)]
        self.watches(catalog, "select v.* from v", "main", rest + [("column", 0, "x", 1), ("bare", 0, "k")])
        self.watches(catalog, "select t.* from v, t", "main", rest + [("columns", 0, (("x", 1), ("y", 2))), ("right", "boss", 0)])

    def test_the_order_of_columns(self):
        catalog = after_deeds(self.catalog, [("drop column", "main", "t", "x"), ("column", "main", "t", "a", "word"), ("rename column", "main", "t", "y", "q")])
        self.watches(catalog, "select t.* from t", "main", [("at", "main", "t", 0), ("right", "boss", 0), ("rule", "boss", 0, None), ("columns", 0, (("q", 2), ("a", 7)))])


class CallsTest(WatchCase):
    def setUp(self):
        # word is cast to text, and num to word.
        self.catalog = catalog_of(
            *table("main.t", "x, y word, z num", "boss"), *function("own.f", "text", "text"), *function("main.f", "word"), *function("main.g", "text word"))
        self.rest = [("at", "main", "t", 0), ("right", "boss", 0), ("rule", "boss", 0, None)]

    def check(self, text, path, entries):
        self.watches(self.catalog, "select " + text + " as k from main.t", path, self.rest + entries)

    def test_one_that_is_given_just_its_types(self):
        self.check("f(x)", "own", [("column", 0, "x", 1), ("function", "own", "f", ("text",), 4)])
        self.check("f(x)", "a own b", [("column", 0, "x", 1), ("function", "own", "f", ("text",), 4), ("unmade", "a", "f", ("text",))])
        self.check("own.f(x)", "a b", [("column", 0, "x", 1), ("function", "own", "f", ("text",), 4)])

    def test_others_that_would_be_as_good(self):
        y = ("column", 0, "y", 2)
        self.check("f(y)", "own", [y, ("function", "own", "f", ("text",), 4), ("unmade", "own", "f", ("word",))])
        self.check("f(y)", "a own", [y, ("function", "own", "f", ("text",), 4), ("unmade", "a", "f", ("text",)), ("unmade", "a", "f", ("word",)), ("unmade", "own", "f", ("word",))])
        self.check("own.f(y)", "main", [y, ("function", "own", "f", ("text",), 4), ("unmade", "own", "f", ("word",))])
        self.check("f(y)", "own main a", [y, ("function", "main", "f", ("word",), 5), ("unmade", "own", "f", ("word",))])
        self.check("f(z)", "main", [("column", 0, "z", 3), ("function", "main", "f", ("word",), 5), ("unmade", "main", "f", ("num",))])

    def test_values_fit_all_types(self):
        self.check("f('a')", "own a", [("function", "own", "f", ("text",), 4)] + [("unmade", at, "f", (kind,)) for at in ("own", "a") for kind in ("num", "word")])
        self.check("own.f('a')", "", [("function", "own", "f", ("text",), 4)] + [("unmade", "own", "f", (kind,)) for kind in ("num", "word")])

    def test_two_terms(self):
        x, y = ("column", 0, "x", 1), ("column", 0, "y", 2)
        self.check("g(x, y)", "main", [x, y, ("function", "main", "g", ("text", "word"), 6)])
        self.check("main.g(y, y)", "", [y, ("function", "main", "g", ("text", "word"), 6), ("unmade", "main", "g", ("word", "word")), ("unmade", "main", "g", ("word", "text"))])
        self.check("main.g(x, 'a')", "", [x, ("function", "main", "g", ("text", "word"), 6), ("unmade", "main", "g", ("text", "num")), ("unmade", "main", "g", ("text", "text"))])
        self.check("main.g(y, z)", "", [y, ("column", 0, "z", 3), ("function", "main", "g", ("text", "word"), 6)] + [
            ("unmade", "main", "g", types) for types in (("word", "word"), ("word", "num"), ("text", "num"))])

    def test_calls_within_others(self):
        self.check("f(own.f(x))", "main own", [("column", 0, "x", 1), ("function", "own", "f", ("text",), 4), ("unmade", "main", "f", ("text",))])
        self.check("g(f(y), y)", "main", [("column", 0, "y", 2), ("function", "main", "f", ("word",), 5), ("function", "main", "g", ("text", "word"), 6)])

    def test_calls_of_views_with_their_path(self):
        catalog = after_deeds(self.catalog, view("main.v", "select f(y) as k from t", "own old main", "boss"))
        self.watches(catalog, "select own.f(k) as l from main.v", "new", [
            ("at", "main", "t", 0), ("at", "main", "v", 7), ("free", "own", "t"), ("free", "old", "t"), ("right", "boss", 7), ("rule", "boss", 0, None),
            ("column", 0, "y", 2), ("function", "main", "f", ("word",), 5), ("unmade", "own", "f", ("word",)), ("unmade", "old", "f", ("word",)),
            ("function", "own", "f", ("text",), 4)])


    def test_what_views_tell_is_handed_in_with_its_type(self):
        catalog = after_deeds(self.catalog, [*view("main.v", "select z as a, y as b from t", "main", "boss"), *view("main.w", "select b, a from v", "main", "boss")])
        rest = [("at", "main", "t", 0), ("at", "main", "v", 7), ("at", "main", "w", 8), ("right", "boss", 8), ("rule", "boss", 0, None), ("column", 0, "y", 2), ("column", 0, "z", 3)]
        self.watches(catalog, "select own.f(b) as k from main.w", "", rest + [("function", "own", "f", ("text",), 4), ("unmade", "own", "f", ("word",))])
        self.watches(catalog, "select f(a) as k from w", "main", rest + [("function", "main", "f", ("word",), 5), ("unmade", "main", "f", ("num",))])


class ViewsTest(WatchCase):
    def test_views_within_views(self):
        catalog = catalog_of(*table("main.t", "x, y"), *table("main.u", "x"), *view("own.v", "select t.x, y from t, u where u.x = y", "old main", "kim"),
                             *view("own.w", "select y as k from own.v", "", "boss"), ("rule", "boss", "main", "u", "x", ("a",)))
        self.watches(catalog, "select k from w", "new own", [
            ("at", "main", "t", 0), ("at", "main", "u", 3), ("at", "own", "v", 5), ("at", "own", "w", 6), ("free", "new", "w"), ("free", "old", "t"),
            ("free", "old", "u"), ("right", "boss", 6), ("rule", "boss", 0, None), ("rule", "boss", 3, (4, ("a",))), ("column", 0, "x", 1),
            ("column", 0, "y", 2), ("bare", 3, "y"), ("column", 3, "x", 4)])

    def test_a_view_beside_what_it_opens(self):
        catalog = catalog_of(*table("main.t", "x", "boss"), *view("main.v", "select x as k from t", "main", "boss"))
        self.watches(catalog, "select x from v, t where k = t.x", "main", [
            ("at", "main", "t", 0), ("at", "main", "v", 2), ("right", "boss", 0), ("right", "boss", 2), ("rule", "boss", 0, None), ("column", 0, "x", 1), ("bare", 0, "k")])


class ErrorsTest(unittest.TestCase):
    def test_the_errors_of_binding_of(self):
        catalog = catalog_of(*table("main.t", "x", "boss"))
        for arguments in [(None, None, None), (read("select x from t"), ["main"], None), (read("select x from t"), (), "in"), (read("select x from t"), (), "boss"),
                          (read("select x from t"), ("main",), "kim"), (read("select a.x from t a, t b where x = b.x"), ("main",), "boss")]:
            word = raised(binding_of, catalog, *arguments)
            self.assertIsNotNone(word)
            self.assertEqual(raised(watch_of, catalog, *arguments), word)

    def test_new_each_time_and_by_name(self):
        catalog = catalog_of(*table("main.t", "x", "boss"))
        arguments = (catalog, read("select x from t"), ("main",), "boss")
        watch_of(*arguments).clear()
        self.assertEqual(len(watch_of(role="boss", path=("main",), statement=arguments[1], catalog=catalog)), 4)
        self.assertIs(holds(entry=("at", "main", "t", 0), catalog=catalog), True)
        self.assertIs(is_entry(thing=("at", "main", "t", 0)), True)


NUMBERS = [0, 1, 10**39]
NOT_NUMBERS = [True, False, None, "0", (0,), [0], {}, "a"]
NAMES = ["a", "abcdefgh", "boss"]
NOT_NAMES = ["", "in", "A", "abcdefghi", None, 0, True, ("a",), ["a"]]
FORMS = {
    "at": "name name number", "free": "name name", "column": "number name number", "bare": "number name", "columns": "number pairs",
    "function": "name name types number", "unmade": "name name types", "right": "name number", "rule": "name number rule",
}
GOOD = {
    "name": NAMES, "number": NUMBERS, "types": [("a",), ("a", "b"), ("a", "a")],
    "pairs": [(("a", 0),), (("a", 1), ("b", 0)), tuple([(letter, at) for at, letter in enumerate("abcdefghijklmnop")])],
    "rule": [None, (0, ("a",)), (3, tuple("abcdefgh")), (3, ("in", "select"))],
}
BAD = {
    "name": NOT_NAMES, "number": NOT_NUMBERS, "types": [(), ("a", "b", "c"), ["a"], "a", ("in",), (0,), None, (("a",),)],
    "pairs": [(), [("a", 0)], (["a", 0],), ("a", 0), (("a",),), (("a", 0, 0),), (("a", True),), (("in", 0),), ((0, "a"),), (("a", 0), None), None, {"a": 0}],
    "rule": [(), (0,), (0, ()), (0, ["a"]), [0, ("a",)], (0, ("b", "a")), (0, ("a", "a")), (0, tuple("abcdefghi")), (True, ("a",)), ("a", ("a",)), (0, ("A",)),
             (0, "a"), (0, ("a",), 0), False, 0, "none"],
}


class FormsTest(unittest.TestCase):
    def test_forms(self):
        for word, forms in FORMS.items():
            forms = forms.split()
            good = (word,) + tuple([GOOD[form][0] for form in forms])
            self.assertIs(is_entry(good), True, good)
            for at, form in enumerate(forms, 1):
                for part in GOOD[form]:
                    self.assertIs(is_entry(good[:at] + (part,) + good[at + 1:]), True, (word, part))
                for part in BAD[form]:
                    self.assertIs(is_entry(good[:at] + (part,) + good[at + 1:]), False, (word, part))
                self.assertIs(is_entry(good[:at] + good[at + 1:]), False)
                self.assertIs(is_entry(good[:at + 1] + good[at:]), False)
            for other in FORMS:
                same = FORMS[other].split() == forms
                self.assertIs(is_entry((other,) + good[1:]), same, (word, other))
            self.assertIs(is_entry(list(good)), False)
            self.assertIs(is_entry((good,)), False)
            self.assertIs(is_entry((word.upper(),) + good[1:]), False)

    def test_any_objects(self):
        for thing in samples.any_objects() + samples.very_large_objects():
            self.assertIs(is_entry(thing), False, samples.shown(thing))
            for entry in [("at", "a", "b", thing), ("at", thing, "b", 0), (thing, "a", "b"), ("columns", 0, thing), ("columns", 0, (thing,)), ("rule", "a", 0, (0, thing)),
                          ("unmade", "a", "b", thing), ("right", "a", thing), ("right", thing, 0)]:
                if thing not in NAMES + NUMBERS + [2, 7, 10**40 - 1, ("a",), ("a", "b"), ("b", "a"), ("a", "a"), "main", "abcdefg", "z"]:
                    self.assertIs(is_entry(entry), False, samples.shown(entry))

    def test_numbers_begin_with_0(self):
        for entry in [("at", "a", "b", -1), ("right", "a", -1), ("bare", -1, "a"), ("columns", 0, (("a", -1),)), ("rule", "a", 0, (-1, ("a",)))]:
            self.assertIs(is_entry(entry), False)


class HoldsTest(unittest.TestCase):
    def setUp(self):
        self.catalog = catalog_of(*table("main.t", "x, y", "boss"), *view("main.v", "select x from t", "main", "boss"), *function("main.f", "text"),
                                  ("rule", "boss", "main", "t", "y", ("a", "b")))

    def check(self, holding, *entries):
        for entry in entries:
            self.assertIs(is_entry(entry), True)
            self.assertIs(holds(self.catalog, entry), holding, entry)

    def test_at_and_free(self):
        self.check(True, ("at", "main", "t", 0), ("at", "main", "v", 3), ("free", "own", "t"), ("free", "main", "f"), ("free", "main", "x"), ("free", "old", "f"))
        self.check(False, ("at", "main", "t", 3), ("at", "main", "v", 0), ("at", "own", "t", 0), ("at", "main", "f", 4), ("at", "main", "u", 9), ("at", "main", "x", 1),
                   ("free", "main", "t"), ("free", "main", "v"))

    def test_columns(self):
        self.check(True, ("column", 0, "x", 1), ("column", 0, "y", 2), ("bare", 0, "z"), ("columns", 0, (("x", 1), ("y", 2))))
        self.check(False, ("column", 0, "x", 2), ("column", 0, "z", 1), ("column", 3, "x", 0), ("column", 3, "x", 1), ("column", 9, "x", 1), ("column", 1, "x", 1), ("bare", 0, "x"))
        self.check(False, ("bare", 3, "z"), ("bare", 1, "z"), ("bare", 4, "z"), ("bare", 9, "z"), ("bare", 10**39, "z"))
        self.check(False, ("columns", 0, (("y", 2), ("x", 1))), ("columns", 0, (("x", 1),)), ("columns", 0, (("x", 1), ("y", 2), ("y", 2))), ("columns", 0, (("x", 2), ("y", 1))),
                   ("columns", 3, (("x", 0),)), ("columns", 9, (("x", 1), ("y", 2))), ("columns", 4, (("x", 1),)))

    def test_functions(self):
        self.check(True, ("function", "main", "f", ("text",), 4), ("unmade", "main", "f", ("word",)), ("unmade", "own", "f", ("text",)), ("unmade", "main", "f", ("text", "text")),
                   ("unmade", "main", "t", ("text",)), ("unmade", "main", "g", ("nothing",)))
        self.check(False, ("function", "main", "f", ("text",), 3), ("function", "main", "f", ("word",), 4), ("function", "own", "f", ("text",), 4), ("function", "main", "g", ("text",), 4),
                   ("unmade", "main", "f", ("text",)))

    def test_rights_and_rules(self):
        self.check(True, ("right", "boss", 0), ("right", "boss", 3), ("rule", "boss", 0, (2, ("a", "b"))), ("rule", "kim", 0, None))
        self.check(False, ("right", "kim", 0), ("right", "boss", 1), ("right", "boss", 4), ("right", "boss", 9))
        self.check(False, ("rule", "boss", 0, None), ("rule", "boss", 0, (2, ("a",))), ("rule", "boss", 0, (1, ("a", "b"))), ("rule", "kim", 0, (2, ("a", "b"))))
        self.check(False, ("rule", "boss", 3, None), ("rule", "boss", 1, None), ("rule", "boss", 4, None), ("rule", "kim", 9, None), ("rule", "kim", 10**39, None))

    def test_behind_deeds(self):
        catalog = after_deeds(self.catalog, [("rename", "main", "t", "u"), ("rename column", "main", "u", "x", "z"), ("rename function", "main", "f", ("text",), "g")])
        for entry, holding in [(("at", "main", "u", 0), True), (("at", "main", "t", 0), False), (("free", "main", "t"), True), (("column", 0, "z", 1), True), (("bare", 0, "x"), True),
                               (("columns", 0, (("z", 1), ("y", 2))), True), (("function", "main", "g", ("text",), 4), True), (("unmade", "main", "f", ("text",)), True), (("right", "boss", 0), True)]:
            self.assertIs(holds(catalog, entry), holding, entry)
        catalog = after_deed(self.catalog, ("drop", "main", "t"))
        for entry in [("at", "main", "t", 0), ("column", 0, "x", 1), ("bare", 0, "z"), ("columns", 0, (("x", 1), ("y", 2))), ("right", "boss", 0), ("rule", "boss", 0, (2, ("a", "b"))),
                      ("rule", "kim", 0, None)]:
            self.assertIs(holds(catalog, entry), False, entry)


class HistoriesTest(unittest.TestCase):
    """In every catalog of one history the statement has the binding if and only if all entries hold."""

    def history(self, source):
        """Return catalogs of one history, of which some were taken back."""
        catalogs = [worlds.make_catalog(source, 40)]
        for _ in range(30):
            base = source.choice(catalogs) if source.random() < 0.3 else catalogs[-1]
            following = max([catalog.next_number for catalog in catalogs])
            catalogs.append(worlds.tried(base.numbered_from(following), worlds.make_deed(source, 0.5)))
        return catalogs

    def test_histories(self):
        seen = {}
        for seed in range(100):
            source = random.Random(seed)
            catalogs = self.history(source)
            for _ in range(12):
                statement, path, role = worlds.make_any(source, source.choice(catalogs))
                bindings = [bound_or_none(catalog, statement, path, role) for catalog in catalogs]
                bound = [at for at, binding in enumerate(bindings) if binding is not None]
                if bound:
                    at = source.choice(bound)
                    self.compare(catalogs, bindings, at, watch_of(catalogs[at], statement, path, role), seen)
        for word in FORMS:
            self.assertTrue(seen.get((word, True), 0) > 20 and seen.get((word, False), 0) > 2, (word, seen))

    def compare(self, catalogs, bindings, at, watch, seen):
        self.assertEqual(watch, sorted(set(watch)))
        for catalog, binding in zip(catalogs, bindings):
            self.assertTrue(all([is_entry(entry) for entry in watch]))
            held = [holds(catalog, entry) for entry in watch]
            self.assertIs(all(held), binding == bindings[at], (watch, held))
            for entry, holding in zip(watch, held):
                # What alone parts this catalog from that one; also what holds together with all others.
                if holding == all(held) or held.count(False) == 1:
                    seen[entry[0], holding] = seen.get((entry[0], holding), 0) + 1


def bound_or_none(catalog, statement, path, role):
    try:
        return binding_of(catalog, statement, path, role)
    except BoundError:
        return None
