"""[7] and [21]: each kind of deed done, and refused by each error that is listed for it."""

import unittest

from boundonce.catalogs import Catalog
from boundonce.deeds import after_deed, after_deeds
from boundonce.errors import InvalidDeed, Taken, Unfit, Unknown

STATEMENT = (False, (("column", (None, "x"), "x"),), ((None, "t", "t"),), ())
START = [
    ("table", "main", "t", (("x", "text"), ("y", "word"), ("z", "text"))),  # 0: 1, 2, 3
    ("table", "own", "u", (("a", "text"), ("b", "word"), ("c", "text"))),  # 4: 5, 6, 7
    ("view", "main", "v", STATEMENT, ("main",)),  # 8
    ("function", "main", "f", ("text",), "word"),  # 9
    ("fact", "own", "u", ("key", ("a", "b"))),
    ("fact", "main", "t", ("ref", ("y", "x"), "own", "u", ("b", "a"))),
    ("fact", "main", "t", ("in", "z", ("p", "q"))),
    ("grant", "boss", "main", "t"),
    ("grant", "boss", "main", "v"),
    ("rule", "boss", "main", "t", "z", ("p",)),
]
REF = ("ref", (1, 2), 4, (5, 6))


class ChangeTest(unittest.TestCase):
    def setUp(self):
        self.start = after_deeds(Catalog(("text", "word")), START)

    def done(self, *deeds):
        return after_deeds(self.start, list(deeds))

    def refused(self, error, *deeds):
        """Check that the last of some deeds is refused."""
        catalog = after_deeds(self.start, list(deeds[:-1]))
        before = after_deeds(self.start, list(deeds[:-1]))
        with self.assertRaises(error):
            after_deed(catalog, deeds[-1])
        self.assertEqual([catalog, catalog.next_number], [before, before.next_number])

    def test_table(self):
        catalog = self.done(("table", "own", "t", (("x", "word"), ("w", "text"))))
        self.assertEqual(catalog.thing_of(10), ("table", "own", "t", (11, 12)))
        self.assertEqual([catalog.thing_of(11), catalog.thing_of(12)], [("column", 10, "x", "word"), ("column", 10, "w", "text")])
        self.assertEqual([catalog.next_number, catalog.facts_of(10), catalog.standing_at("own", "t")], [13, [], 10])
        self.refused(Unknown, ("table", "own", "t", (("x", "text"), ("y", "number"))))
        self.refused(Unknown, ("table", "main", "t", (("x", "number"),)))
        self.refused(Taken, ("table", "main", "t", (("x", "text"),)))
        self.refused(Taken, ("table", "main", "v", (("x", "text"),)))
        self.done(("table", "main", "f", (("x", "text"),)))

    def test_view(self):
        catalog = self.done(("view", "own", "v", STATEMENT, ("own", "main")))
        self.assertEqual(catalog.thing_of(10), ("view", "own", "v", STATEMENT, ("own", "main")))
        self.assertEqual([catalog.next_number, catalog.standing_at("own", "v")], [11, 10])
        self.refused(Taken, ("view", "main", "t", STATEMENT, ()))
        self.refused(Taken, ("view", "main", "v", STATEMENT, ()))
        nowhere = (False, (("term", ("call", None, "no", ((None, "no"),)), "x"),), (("no", "no", "no"),), ())
        self.assertEqual(self.done(("view", "own", "w", nowhere, ())).standing_at("own", "w"), 10)

    def test_function(self):
        catalog = self.done(("function", "main", "f", ("text", "word"), "text"), ("function", "own", "f", ("text",), "text"),
                            ("function", "main", "t", ("text",), "text"))
        self.assertEqual(catalog.thing_of(10), ("function", "main", "f", ("text", "word"), "text"))
        self.assertEqual([catalog.function_at("main", "f", ("text", "word")), catalog.function_at("main", "f", ("text",)),
                          catalog.function_at("own", "f", ("text",)), catalog.standing_at("main", "t")], [10, 9, 11, 0])
        self.refused(Unknown, ("function", "own", "g", ("number",), "text"))
        self.refused(Unknown, ("function", "own", "g", ("text", "number"), "text"))
        self.refused(Unknown, ("function", "own", "g", ("text",), "number"))
        self.refused(Unknown, ("function", "main", "f", ("text",), "number"))
        self.refused(Taken, ("function", "main", "f", ("text",), "text"))

    def test_drop(self):
        catalog = self.done(("drop", "main", "v"))
        self.assertEqual([catalog.all_numbers, catalog.standing_at("main", "v")], [[0, 1, 2, 3, 4, 5, 6, 7, 9], None])
        self.assertIs(catalog.has_right("boss", 8), False)
        self.assertIs(catalog.has_right("boss", 0), True)
        catalog = self.done(("drop", "main", "t"))
        self.assertEqual(catalog.all_numbers, [4, 5, 6, 7, 8, 9])
        self.assertEqual([catalog.has_right("boss", 0), catalog.rule_for("boss", 0)], [False, None])
        self.assertEqual([catalog.facts_of(4), catalog.next_number], [[("key", (5, 6))], 10])
        catalog = self.done(("drop", "own", "u"))
        self.assertEqual(catalog.facts_of(0), [("in", 3, ("p", "q"))])
        for place in [("own", "t"), ("main", "u"), ("main", "f"), ("main", "x")]:
            self.refused(Unknown, ("drop", *place))
        self.refused(Unknown, ("drop", "main", "t"), ("drop", "main", "t"))

    def test_drop_function(self):
        catalog = self.done(("drop function", "main", "f", ("text",)))
        self.assertEqual([catalog.all_numbers, catalog.function_at("main", "f", ("text",))], [[0, 1, 2, 3, 4, 5, 6, 7, 8], None])
        for place in [("own", "f", ("text",)), ("main", "g", ("text",)), ("main", "f", ("word",)),
                      ("main", "f", ("text", "text")), ("main", "t", ("text",)), ("main", "f", ("number",))]:
            self.refused(Unknown, ("drop function", *place))

    def test_made_anew_with_other_numbers(self):
        drops = [("drop", "main", "t"), ("drop", "main", "v"), ("drop function", "main", "f", ("text",))]
        catalog = self.done(*drops, START[0], START[2], START[3])
        self.assertEqual(catalog.all_numbers, [4, 5, 6, 7, 10, 11, 12, 13, 14, 15])
        self.assertEqual(catalog.thing_of(10), ("table", "main", "t", (11, 12, 13)))
        self.assertEqual([catalog.standing_at("main", "v"), catalog.function_at("main", "f", ("text",))], [14, 15])
        self.assertEqual([catalog.facts_of(10), catalog.rule_for("boss", 10), catalog.has_right("boss", 10)], [[], None, False])

    def test_rename(self):
        catalog = self.done(("rename", "main", "t", "s"), ("rename", "main", "v", "t"))
        self.assertEqual([catalog.standing_at("main", name) for name in "tsv"], [8, 0, None])
        self.assertEqual(catalog.thing_of(0), ("table", "main", "s", (1, 2, 3)))
        self.assertEqual(catalog.thing_of(8), ("view", "main", "t", STATEMENT, ("main",)))
        self.assertEqual([catalog.facts_of(0), catalog.rule_for("boss", 0)], [self.start.facts_of(0), (3, ("p",))])
        self.assertIs(catalog.has_right("boss", 0), True)
        self.assertEqual(self.done(("rename", "main", "t", "u")).standing_at("main", "u"), 0)
        self.refused(Unknown, ("rename", "own", "t", "s"))
        self.refused(Unknown, ("rename", "main", "f", "s"))
        self.refused(Unknown, ("rename", "own", "t", "t"))
        for name in ("t", "v"):
            self.refused(Taken, ("rename", "main", "t", name))
            self.refused(Taken, ("rename", "main", "v", name))

    def test_rename_function(self):
        catalog = self.done(("rename function", "main", "f", ("text",), "g"))
        self.assertEqual([catalog.function_at("main", name, ("text",)) for name in "fg"], [None, 9])
        self.assertEqual(catalog.thing_of(9), ("function", "main", "g", ("text",), "word"))
        self.refused(Unknown, ("rename function", "main", "f", ("word",), "g"))
        self.refused(Unknown, ("rename function", "own", "f", ("text",), "f"))
        self.refused(Taken, ("rename function", "main", "f", ("text",), "f"))
        self.refused(Taken, ("function", "main", "g", ("text",), "text"), ("rename function", "main", "f", ("text",), "g"))
        self.done(("function", "main", "g", ("word",), "text"), ("rename function", "main", "f", ("text",), "g"))

    def test_rename_column(self):
        catalog = self.done(("rename column", "main", "t", "x", "w"))
        self.assertEqual([catalog.column_of(0, "x"), catalog.column_of(0, "w")], [None, 1])
        self.assertEqual(catalog.thing_of(1), ("column", 0, "w", "text"))
        self.assertEqual(catalog.facts_of(0), self.start.facts_of(0))
        self.refused(Unknown, ("rename column", "main", "t", "w", "w"))
        self.refused(Unknown, ("rename column", "main", "v", "x", "w"))
        self.refused(Unknown, ("rename column", "own", "t", "x", "w"))
        self.refused(Taken, ("rename column", "main", "t", "x", "x"))
        self.refused(Taken, ("rename column", "main", "t", "x", "z"))

    def test_column(self):
        catalog = self.done(("column", "main", "t", "w", "word"))
        self.assertEqual([catalog.thing_of(0), catalog.thing_of(10)],
                         [("table", "main", "t", (1, 2, 3, 10)), ("column", 0, "w", "word")])
        self.refused(Unknown, ("column", "main", "t", "w", "number"))
        self.refused(Unknown, ("column", "main", "t", "x", "number"))
        self.refused(Unknown, ("column", "main", "v", "w", "text"))
        self.refused(Unknown, ("column", "own", "t", "w", "text"))
        self.refused(Taken, ("column", "main", "t", "x", "word"))
        more = [("column", "main", "t", name, "text") for name in "abcdefg"]
        self.assertEqual(len(self.done(*more).thing_of(0)[3]), 10)

    def test_drop_column(self):
        catalog = self.done(("drop column", "main", "t", "z"))
        self.assertEqual([catalog.thing_of(0), catalog.facts_of(0)], [("table", "main", "t", (1, 2)), [REF]])
        self.assertEqual([catalog.rule_for("boss", 0), catalog.has_right("boss", 0)], [None, True])
        self.assertNotIn(3, catalog.all_numbers)
        catalog = self.done(("drop column", "main", "t", "y"))
        self.assertEqual([catalog.facts_of(0), catalog.rule_for("boss", 0)], [[("in", 3, ("p", "q"))], (3, ("p",))])
        catalog = self.done(("drop column", "own", "u", "a"))
        self.assertEqual([catalog.facts_of(0), catalog.facts_of(4)], [[("in", 3, ("p", "q"))], []])
        catalog = self.done(("drop column", "own", "u", "c"))
        self.assertEqual([catalog.facts_of(0), catalog.facts_of(4)], [self.start.facts_of(0), [("key", (5, 6))]])
        self.refused(Unknown, ("drop column", "main", "t", "w"))
        self.refused(Unknown, ("drop column", "main", "v", "x"))
        self.refused(Unknown, ("drop column", "own", "t", "x"))

    def test_the_only_column(self):
        drops = [("drop column", "main", "t", name) for name in "xyz"]
        self.refused(Unfit, *drops)
        self.refused(Unknown, *drops[:2], drops[0])
        self.refused(Unfit, ("table", "own", "one", (("x", "text"),)), ("drop column", "own", "one", "x"))
        self.refused(Unknown, ("table", "own", "one", (("x", "text"),)), ("drop column", "own", "one", "y"))

    def test_a_column_made_anew(self):
        catalog = self.done(("drop column", "main", "t", "x"), ("column", "main", "t", "x", "text"))
        self.assertEqual([catalog.thing_of(0)[3], catalog.column_of(0, "x")], [(2, 3, 10), 10])
        self.assertEqual(catalog.facts_of(0), [("in", 3, ("p", "q"))])

    def test_grant_and_revoke(self):
        catalog = self.done(("grant", "kim", "main", "v"), ("revoke", "boss", "main", "v"))
        self.assertEqual([catalog.has_right("kim", 8), catalog.has_right("boss", 8)], [True, False])
        self.assertEqual([catalog.has_right("boss", 0), catalog.has_right("kim", 0)], [True, False])
        self.refused(Unknown, ("grant", "kim", "own", "t"))
        self.refused(Unknown, ("grant", "kim", "main", "f"))
        self.refused(Taken, ("grant", "boss", "main", "t"))
        self.refused(Taken, ("grant", "boss", "main", "v"))
        self.refused(Unknown, ("revoke", "boss", "own", "t"))
        self.refused(Unknown, ("revoke", "kim", "main", "t"))
        self.refused(Unknown, ("revoke", "boss", "own", "u"))
        self.refused(Unknown, ("revoke", "boss", "main", "t"), ("revoke", "boss", "main", "t"))

    def test_rules(self):
        catalog = self.done(("rule", "kim", "main", "t", "x", ("a", "b")), ("rule", "boss", "main", "t", "y", ("p",)))
        self.assertEqual([catalog.rule_for("kim", 0), catalog.rule_for("boss", 0)], [(1, ("a", "b")), (2, ("p",))])
        self.assertEqual(self.done(START[-1]), self.start)
        self.refused(Unknown, ("rule", "boss", "main", "t", "w", ("a",)))
        self.refused(Unknown, ("rule", "boss", "main", "v", "x", ("a",)))
        self.refused(Unknown, ("rule", "boss", "own", "t", "x", ("a",)))

    def test_drop_rule(self):
        self.assertIsNone(self.done(("drop rule", "boss", "main", "t")).rule_for("boss", 0))
        self.refused(Unknown, ("drop rule", "kim", "main", "t"))
        self.refused(Unknown, ("drop rule", "boss", "own", "u"))
        self.refused(Unknown, ("drop rule", "boss", "main", "v"))
        self.refused(Unknown, ("drop rule", "boss", "own", "t"))

    def test_elder_catalogs_stay(self):
        for deed in [("drop", "main", "t"), ("drop", "own", "u"), ("drop column", "own", "u", "a"), ("rename", "main", "t", "s"),
                     ("revoke", "boss", "main", "t"), ("drop rule", "boss", "main", "t"), ("column", "main", "t", "w", "text"),
                     ("drop fact", "own", "u", ("key", ("a", "b"))), ("rename column", "main", "t", "x", "w"),
                     ("fact", "main", "t", ("key", ("x",))), ("drop function", "main", "f", ("text",))]:
            self.assertNotEqual(after_deed(self.start, deed), self.start)
            self.assertEqual(self.start, after_deeds(Catalog(("text", "word")), START))
            self.assertEqual(self.start.next_number, 10)


class FactTest(unittest.TestCase):
    def setUp(self):
        self.start = after_deeds(Catalog(("text", "word")), START[:4])

    done = ChangeTest.done
    refused = ChangeTest.refused

    def test_keys(self):
        catalog = self.done(("fact", "main", "t", ("key", ("z", "x", "y"))), ("fact", "main", "t", ("key", ("z",))))
        self.assertEqual(catalog.facts_of(0), [("key", (1, 2, 3)), ("key", (3,))])
        self.refused(Taken, ("fact", "main", "t", ("key", ("x", "y"))), ("fact", "main", "t", ("key", ("y", "x"))))
        self.refused(Unknown, ("fact", "main", "t", ("key", ("x", "w"))))
        self.refused(Unknown, ("fact", "main", "v", ("key", ("x",))))
        self.refused(Unknown, ("fact", "own", "t", ("key", ("x",))))

    def test_lists(self):
        one, two = ("fact", "main", "t", ("in", "x", ("a", "b"))), ("fact", "main", "t", ("in", "x", ("a",)))
        self.assertEqual(self.done(one, two).facts_of(0), [("in", 1, ("a",)), ("in", 1, ("a", "b"))])
        self.refused(Taken, one, one)
        self.refused(Unknown, ("fact", "main", "t", ("in", "w", ("a",))))
        self.refused(Unknown, ("fact", "main", "v", ("in", "x", ("a",))))

    def test_references(self):
        key = ("fact", "own", "u", ("key", ("b", "a")))
        for columns, others in [(("x", "y"), ("a", "b")), (("y", "x"), ("b", "a"))]:
            catalog = self.done(key, ("fact", "main", "t", ("ref", columns, "own", "u", others)))
            self.assertEqual(catalog.facts_of(0), [("ref", (1, 2), 4, (5, 6))])
            for again in [(("x", "y"), ("a", "b")), (("y", "x"), ("b", "a"))]:
                with self.assertRaises(Taken):
                    after_deed(catalog, ("fact", "main", "t", ("ref", again[0], "own", "u", again[1])))
        catalog = self.done(key, ("fact", "main", "t", ("ref", ("z", "y"), "own", "u", ("a", "b"))))
        self.assertEqual(catalog.facts_of(0), [("ref", (3, 2), 4, (5, 6))])

    def test_columns_of_a_reference_may_be_the_same(self):
        key = ("fact", "own", "u", ("key", ("c", "a")))
        catalog = self.done(key, ("fact", "main", "t", ("ref", ("x", "x"), "own", "u", ("c", "a"))))
        self.assertEqual(catalog.facts_of(0), [("ref", (1, 1), 4, (5, 7))])

    def test_unknown_in_references(self):
        key = ("fact", "own", "u", ("key", ("a",)))
        for fact in [("ref", ("w",), "own", "u", ("a",)), ("ref", ("x",), "own", "u", ("w",)), ("ref", ("x",), "own", "t", ("a",)),
                     ("ref", ("x",), "main", "v", ("x",)), ("ref", ("x",), "own", "u", ("x",)), ("ref", ("a",), "own", "u", ("a",))]:
            self.refused(Unknown, key, ("fact", "main", "t", fact))
            self.refused(Unknown, key, ("drop fact", "main", "t", fact))

    def test_a_reference_leads_to_a_declared_key(self):
        ref = ("fact", "main", "t", ("ref", ("x",), "own", "u", ("a",)))
        self.refused(Unfit, ref)
        self.refused(Unfit, ("fact", "own", "u", ("key", ("c",))), ref)
        self.refused(Unfit, ("fact", "own", "u", ("key", ("a", "b"))), ref)
        self.refused(Unfit, ("fact", "own", "u", ("in", "a", ("p",))), ref)
        self.refused(Unfit, ("fact", "main", "t", ("key", ("x",))), ref)
        two = ("fact", "main", "t", ("ref", ("x", "y"), "own", "u", ("a", "b")))
        self.refused(Unfit, ("fact", "own", "u", ("key", ("a",))), ("fact", "own", "u", ("key", ("b",))), two)
        self.refused(Unfit, ("fact", "own", "u", ("key", ("a", "b", "c"))), two)

    def test_a_reference_leads_to_the_same_types(self):
        one, two = ("fact", "own", "u", ("key", ("a",))), ("fact", "own", "u", ("key", ("a", "b")))
        self.refused(Unfit, one, ("fact", "main", "t", ("ref", ("y",), "own", "u", ("a",))))
        self.refused(Unfit, two, ("fact", "main", "t", ("ref", ("x", "y"), "own", "u", ("b", "a"))))
        self.refused(Unfit, two, ("fact", "main", "t", ("ref", ("x", "z"), "own", "u", ("a", "b"))))
        self.refused(Unfit, two, ("fact", "main", "t", ("ref", ("y", "y"), "own", "u", ("a", "b"))))

    def test_references_make_no_ring(self):
        keys = [("table", "own", "w", (("a", "text"), ("b", "text"))), ("fact", "own", "w", ("key", ("a",))),
                ("fact", "main", "t", ("key", ("x",))), ("fact", "own", "u", ("key", ("a",)))]
        there = ("fact", "main", "t", ("ref", ("z",), "own", "u", ("a",)))
        on = ("fact", "own", "u", ("ref", ("c",), "own", "w", ("a",)))
        back = ("fact", "own", "w", ("ref", ("b",), "main", "t", ("x",)))
        self.refused(Unfit, *keys, ("fact", "main", "t", ("ref", ("z",), "main", "t", ("x",))))
        self.refused(Unfit, *keys, ("fact", "main", "t", ("ref", ("x",), "main", "t", ("x",))))
        self.refused(Unfit, *keys, there, ("fact", "own", "u", ("ref", ("c",), "main", "t", ("x",))))
        for first, second, third in [(there, on, back), (on, back, there), (back, there, on)]:
            self.refused(Unfit, *keys, first, second, third)
            self.refused(Unfit, *keys, second, first, third)
        self.assertEqual(len(self.done(*keys, there, on, ("fact", "main", "t", ("ref", ("x",), "own", "w", ("a",)))).facts_of(0)), 3)
        freed = self.done(*keys, there, on, ("drop fact", "own", "u", on[3]), back)
        self.assertEqual(freed.facts_of(10), [("key", (11,)), ("ref", (12,), 0, (1,))])

    def test_the_order_of_the_errors(self):
        self.refused(Unknown, ("fact", "main", "t", ("ref", ("x",), "main", "t", ("w",))))
        keys = [("fact", "own", "u", ("key", ("a",))), ("fact", "main", "t", ("ref", ("x",), "own", "u", ("a",)))]
        self.refused(Taken, *keys, keys[1])
        self.refused(InvalidDeed, ("fact", "main", "t", ("ref", ("x",), "main", "t", ("in",))))

    def test_drop_fact(self):
        facts = [("key", ("x", "y")), ("in", "x", ("a", "b")), ("key", ("x",))]
        deeds = [("fact", "main", "t", fact) for fact in facts]
        catalog = self.done(*deeds, ("drop fact", "main", "t", ("key", ("y", "x"))))
        self.assertEqual(catalog.facts_of(0), [("in", 1, ("a", "b")), ("key", (1,))])
        catalog = self.done(*deeds, ("drop fact", "main", "t", ("in", "x", ("a", "b"))))
        self.assertEqual(catalog.facts_of(0), [("key", (1,)), ("key", (1, 2))])
        for fact in [("key", ("y",)), ("key", ("x", "y", "z")), ("in", "x", ("a",)), ("in", "y", ("a", "b")), ("key", ("w",))]:
            self.refused(Unknown, *deeds, ("drop fact", "main", "t", fact))
        self.refused(Unknown, *deeds, ("drop fact", "main", "v", ("key", ("x",))))
        self.refused(Unknown, *deeds, ("drop fact", "own", "u", ("key", ("a",))))

    def test_drop_a_reference(self):
        key, ref = ("key", ("a", "b")), ("ref", ("x", "y"), "own", "u", ("a", "b"))
        deeds = [("fact", "own", "u", key), ("fact", "main", "t", ref)]
        catalog = self.done(*deeds, ("drop fact", "main", "t", ("ref", ("y", "x"), "own", "u", ("b", "a"))))
        self.assertEqual([catalog.facts_of(0), catalog.facts_of(4)], [[], [("key", (5, 6))]])
        self.refused(Unknown, deeds[0], ("drop fact", "main", "t", ref))
        self.refused(Unknown, *deeds, ("drop fact", "main", "t", ("ref", ("z", "y"), "own", "u", ("a", "b"))))

    def test_a_key_goes_with_the_references_to_it(self):
        deeds = [("fact", "own", "u", ("key", ("a",))), ("fact", "own", "u", ("key", ("c",))), ("fact", "main", "t", ("key", ("x",))),
                 ("fact", "main", "t", ("ref", ("x",), "own", "u", ("a",))), ("fact", "main", "t", ("ref", ("z",), "own", "u", ("a",))),
                 ("fact", "main", "t", ("ref", ("x",), "own", "u", ("c",)))]
        catalog = self.done(*deeds, ("drop fact", "own", "u", ("key", ("a",))))
        self.assertEqual(catalog.facts_of(0), [("key", (1,)), ("ref", (1,), 4, (7,))])
        self.assertEqual(catalog.facts_of(4), [("key", (7,))])

    def test_a_reference_goes_alone(self):
        deeds = [("table", "own", "w", (("a", "text"),)), ("fact", "own", "u", ("key", ("a",))), ("fact", "main", "t", ("key", ("x",))),
                 ("fact", "own", "w", ("ref", ("a",), "main", "t", ("x",))), ("fact", "main", "t", ("ref", ("x",), "own", "u", ("a",)))]
        catalog = self.done(*deeds, ("drop fact", "main", "t", deeds[4][3]))
        self.assertEqual(catalog, self.done(*deeds[:4]))
        self.assertEqual([catalog.facts_of(0), catalog.facts_of(10)], [[("key", (1,))], [("ref", (11,), 0, (1,))]])

    def test_a_chain_of_references(self):
        chain = [("table", "own", "w", (("a", "text"),)), ("fact", "own", "u", ("key", ("a",))), ("fact", "own", "w", ("key", ("a",))),
                 ("fact", "main", "t", ("ref", ("x",), "own", "u", ("a",))), ("fact", "own", "u", ("ref", ("a",), "own", "w", ("a",)))]
        catalog = self.done(*chain, ("drop", "own", "w"))
        self.assertEqual([catalog.facts_of(0), catalog.facts_of(4)], [[("ref", (1,), 4, (5,))], [("key", (5,))]])
        catalog = self.done(*chain, ("drop column", "own", "u", "a"))
        self.assertEqual([catalog.facts_of(0), catalog.facts_of(4), catalog.facts_of(10)], [[], [], [("key", (11,))]])


class ViewsLeanOnNothingTest(unittest.TestCase):
    def test_what_a_view_names_may_go(self):
        start = after_deeds(Catalog(("text", "word")), START)
        for deed in [("drop", "main", "t"), ("drop column", "main", "t", "x"), ("rename", "main", "t", "s")]:
            self.assertEqual(after_deed(start, deed).thing_of(8), ("view", "main", "v", STATEMENT, ("main",)))
