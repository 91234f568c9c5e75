"""[7] and [21]: the forms of deeds, and that a deed of no form is refused."""

import copy
import random
import unittest

from boundonce.catalogs import Catalog
from boundonce.deeds import after_deed, after_deeds, is_deed
from boundonce.errors import BoundError, InvalidDeed, Unknown
from tests import oracles, samples

STATEMENT = (False, (("column", (None, "x"), "x"), ("term", ("call", None, "f", (("t", "x"),)), "y")),
             ((None, "t", "t"),), (("in", (None, "x"), ("a", "b")),))
KINDS = {
    "table": ("table", "main", "t", (("x", "text"), ("y", "word"))),
    "view": ("view", "main", "v", STATEMENT, ("main", "own")),
    "function": ("function", "main", "f", ("text", "word"), "text"),
    "drop": ("drop", "main", "t"),
    "drop function": ("drop function", "main", "f", ("text", "word")),
    "rename": ("rename", "main", "t", "u"),
    "rename function": ("rename function", "main", "f", ("text",), "g"),
    "rename column": ("rename column", "main", "t", "x", "z"),
    "column": ("column", "main", "t", "z", "text"),
    "drop column": ("drop column", "main", "t", "x"),
    "fact": ("fact", "main", "t", ("key", ("x", "y"))),
    "drop fact": ("drop fact", "main", "t", ("in", "x", ("a", "in"))),
    "grant": ("grant", "boss", "main", "t"),
    "revoke": ("revoke", "boss", "main", "t"),
    "rule": ("rule", "boss", "main", "t", "x", ("a", "select")),
    "drop rule": ("drop rule", "boss", "main", "t"),
}
CATALOG = after_deeds(Catalog(("text", "word")), [KINDS["table"], KINDS["view"], KINDS["fact"], KINDS["rule"]])
REF = ("fact", "main", "t", ("ref", ("x", "x"), "own", "u", ("b", "a")))


class FormTest(unittest.TestCase):
    def check(self, thing, expected):
        self.assertIs(is_deed(thing), expected, samples.shown(thing))
        error = None
        try:
            after_deed(CATALOG, thing)
        except BoundError as caught:
            error = caught
        self.assertIs(isinstance(error, InvalidDeed), not expected, samples.shown(thing))

    def test_the_sixteen_kinds(self):
        self.assertEqual(len(KINDS), 16)
        for word, deed in KINDS.items():
            self.assertEqual(deed[0], word)
            self.check(deed, True)
            self.check(deed[:-1], False)
            self.check(deed + ("a",), False)
            self.check(list(deed), False)
            self.check((word + "s",) + deed[1:], False)
        self.check(REF, True)

    def test_whether_things_are_there_is_not_looked_at(self):
        self.check(("column", "nowhere", "nothing", "x", "notype"), True)
        self.check(("rename", "main", "t", "t"), True)
        self.check(("rename column", "main", "t", "x", "x"), True)
        self.check(("fact", "main", "t", ("ref", ("x",), "main", "t", ("x",))), True)

    def test_columns_of_a_new_table(self):
        for size in range(11):
            columns = tuple([(name, "text") for name in "abcdefghij"[:size]])
            self.check(("table", "main", "t", columns), 1 <= size <= 8)
        for columns in [(("a", "text"), ("a", "word")), (("a", "text"), ["b", "text"]), (("a",),), (("a", "text", "b"),),
                        (("in", "text"),), (("a", "in"),), [("a", "text")], (("a", None),), "ab", ("ab",), (("b", 1),),
                        (("a", "text"), ("b", "text"), ("a", "text"))]:
            self.check(("table", "main", "t", columns), False)
        self.check(("table", "main", "t", (("a", "a"), ("b", "a"))), True)

    def test_views(self):
        star = (False, (("star", "t"),), ((None, "t", "t"),), ())
        for statement in (star, (True,) + STATEMENT[1:], None, (), list(STATEMENT), "select x from t"):
            self.check(("view", "main", "v", statement, ()), False)
        names = ("a", "b", "c", "d", "e", "f", "g")
        for size in range(8):
            self.check(("view", "main", "v", STATEMENT, names[:size]), size <= 6)
        for path in (["main"], ("main", "main"), None, "main", ("in",)):
            self.check(("view", "main", "v", STATEMENT, path), False)

    def test_lists_of_types(self):
        for size in range(5):
            types = ("text",) * size
            for deed in [("function", "main", "f", types, "text"), ("drop function", "main", "f", types),
                         ("rename function", "main", "f", types, "g")]:
                self.check(deed, 1 <= size <= 2)
                self.check(deed[:3] + (list(types),) + deed[4:], False)

    def test_facts(self):
        for word in ("fact", "drop fact"):
            for size in range(6):
                names = tuple("xyzab"[:size])
                self.check((word, "main", "t", ("key", names)), 1 <= size <= 3)
                self.check((word, "main", "t", ("ref", names, "own", "u", names)), 1 <= size <= 3)
                self.check((word, "main", "t", ("ref", ("x",) * size, "own", "u", names)), 1 <= size <= 3)
                self.check((word, "main", "t", ("ref", names, "own", "u", ("x",) * size)), size == 1)
            for fact in [("key", ("x", "x")), ("key", ("x", "y", "x")), ("key", ["x"]), ("key", "x"), ("key",),
                         ("key", ("in",)), ("key", ("x",), "main"), ["key", ("x",)], ("keys", ("x",)),
                         ("in", "x", ()), ("in", "x", ("b", "a")), ("in", ("x",), ("a",)), ("in", "x", ["a"]),
                         ("in", "in", ("a",)), ("in", "x", tuple("abcdefghi")), ("in", "x"), ("in", 1, ("a",)),
                         ("ref", ("x",), "own", "u", ("x", "y")), ("ref", ("x", "y"), "own", "u", ("x",)),
                         ("ref", ("x",), "own", ("x",)), ("ref", ("x",), None, "u", ("x",)), ("ref", "x", "own", "u", "x"),
                         ("ref", ["x"], "own", "u", ("x",)), ("ref", ("x",), "own", "u", ["x"]), (), None, "key",
                         ("ref", ("x", "y"), "own", "u", ("x", "x")), ("ref", ("x",), 0, ("x",)), ("key", (0,))]:
                self.check((word, "main", "t", fact), False)
            self.check((word, "main", "t", ("in", "x", ("in", "where"))), True)
            self.check((word, "main", "t", ("ref", ("x", "y", "x"), "own", "u", ("y", "x", "z"))), True)

    def test_rules(self):
        for values in ((), ("b", "a"), ["a"], "a", ("a", "a"), (1,), tuple("abcdefghi")):
            self.check(("rule", "boss", "main", "t", "x", values), False)
        self.check(("rule", "boss", "main", "t", "x", tuple("abcdefgh")), True)

    def test_any_objects(self):
        catalog = Catalog(("text",))
        things = samples.any_objects() + samples.very_large_objects()
        for thing in things:
            self.check(thing, False)
            with self.assertRaises(InvalidDeed):
                after_deeds(catalog, [thing])
        for thing in things:
            if not isinstance(thing, str):
                self.check((thing, "main", "t"), False)
                self.check(("grant", thing, "main", "t"), False)
                self.check(("table", "main", "t", thing), False)

    def test_variants(self):
        for deed in list(KINDS.values()) + [REF]:
            for thing in samples.variants(deed):
                self.check(thing, oracles.deed_fits(thing))

    def test_deeds_by_a_seed(self):
        source = random.Random(7)
        for _ in range(1000):
            deed = samples.make_deed(source)
            self.check(deed, True)

    def test_by_name(self):
        self.assertIs(is_deed(thing=KINDS["drop"]), True)
        catalog = after_deed(catalog=Catalog(("text", "word")), deed=KINDS["table"])
        self.assertEqual(after_deeds(catalog=catalog, deeds=[KINDS["drop"]]), Catalog(("text", "word")))


class AfterDeedsTest(unittest.TestCase):
    def test_none(self):
        self.assertEqual(after_deeds(Catalog(("text",)), []), Catalog(("text",)))

    def test_the_first_that_is_refused(self):
        catalog = Catalog(("text", "word"))
        with self.assertRaises(Unknown):
            after_deeds(catalog, [KINDS["table"], ("drop", "main", "u"), KINDS["table"], None])
        with self.assertRaises(InvalidDeed):
            after_deeds(catalog, [KINDS["table"], None, ("drop", "main", "u")])
        self.assertEqual(catalog, Catalog(("text", "word")))
        self.assertEqual(catalog.next_number, 0)

    def test_no_argument_is_changed(self):
        deeds = [KINDS["table"], KINDS["view"], KINDS["fact"], KINDS["rule"]]
        before = copy.deepcopy(deeds)
        catalog = Catalog(("text", "word"))
        after_deeds(catalog, deeds)
        self.assertEqual(deeds, before)
        self.assertEqual([catalog, catalog.next_number], [Catalog(("text", "word")), 0])
