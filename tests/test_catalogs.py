"""[3], [4], [20], and what [2] says of what is returned."""

import copy
import unittest

from boundonce.catalogs import Catalog
from boundonce.deeds import after_deed, after_deeds
from boundonce.errors import InvalidCatalog, Unknown
from tests import oracles, samples

STATEMENT = (False, (("column", (None, "id"), "id"),), ((None, "dept", "dept"),), ())
DEEDS = [
    ("table", "main", "dept", (("id", "text"), ("town", "text"))),
    ("view", "own", "depts", STATEMENT, ("main",)),
    ("function", "main", "f", ("word", "text"), "word"),
    ("table", "main", "emp", (("name", "text"), ("dept", "text"))),
    ("fact", "main", "dept", ("key", ("id",))),
    ("fact", "main", "emp", ("ref", ("dept",), "main", "dept", ("id",))),
    ("fact", "main", "emp", ("key", ("dept", "name"))),
    ("fact", "main", "emp", ("in", "name", ("bo", "kim"))),
    ("grant", "boss", "main", "emp"),
    ("grant", "boss", "own", "depts"),
    ("rule", "boss", "main", "emp", "dept", ("ulm",)),
]


def small():
    return Catalog(("text", "word"), [("word", "text")])


def full():
    return after_deeds(small(), DEEDS)


class NewCatalogTest(unittest.TestCase):
    def refuse(self, *given, **named):
        with self.assertRaises(InvalidCatalog):
            Catalog(*given, **named)

    def test_a_new_catalog(self):
        catalog = Catalog(["word", "text"], (("word", "text"), ("text", "word")))
        self.assertEqual(catalog.types, ("text", "word"))
        self.assertEqual(catalog.casts, (("text", "word"), ("word", "text")))
        self.assertEqual(catalog.next_number, 0)
        self.assertEqual(catalog.all_numbers, [])
        self.assertEqual(Catalog(("a",)).casts, ())

    def test_types_ascend(self):
        self.assertEqual(Catalog(("d", "b", "c", "a")).types, ("a", "b", "c", "d"))
        self.assertEqual(Catalog(("b", "a"), [("b", "a"), ("a", "b")]).casts, (("a", "b"), ("b", "a")))

    def test_one_to_four_types(self):
        for size in range(7):
            for kind in (tuple, list):
                types = kind("abcdef"[:size])
                if 1 <= size <= 4:
                    self.assertEqual(Catalog(types).types, tuple("abcdef"[:size]))
                else:
                    self.refuse(types)

    def test_types_are_different_names(self):
        for types in [("a", "a"), ("a", "b", "a"), ("in",), ("abcdefghi",), ("A",), ("",), (None,), (1,), (True,),
                      (("a",),), (["a"],), "a", "text", None, 1, True, {"a": 1}, {}, ({},), ("a", [])]:
            self.refuse(types)
        self.assertEqual(Catalog(("abcdefgh",)).types, ("abcdefgh",))

    def test_casts_are_different_pairs_of_different_types(self):
        types = ("a", "b", "c")
        for casts in [[("a", "a")], [("a", "b"), ("a", "b")], [("a", "d")], [("d", "a")], [("a",)], [("a", "b", "c")],
                      [["a", "b"]], ["ab"], [("a", None)], [(1, "a")], [("a", ["b"])], [(["a"], "b")], [("b", True)],
                      None, "ab", 1, True, {}, {"a": "b"}, ("a", "b"), [None], [("a", "b"), ("b", "b")], [()]]:
            self.refuse(types, casts)
            self.refuse(types=types, casts=casts)
        pairs = [(one, two) for one in types for two in types if one != two]
        self.assertEqual(Catalog(types, pairs).casts, tuple(sorted(pairs)))
        self.assertEqual(Catalog(types, tuple(pairs)).casts, tuple(sorted(pairs)))
        self.assertEqual(Catalog(types=types, casts=[]).casts, ())

    def test_any_objects(self):
        for thing in samples.any_objects() + samples.very_large_objects():
            row = list(thing) if isinstance(thing, (tuple, list)) else None
            if row not in (["a"], ["a", "b"], ["b", "a"]):
                self.refuse(thing)
            if row not in ([], [("a", "b")]):
                self.refuse(("a", "b"), thing)
            if not isinstance(thing, str) or not oracles.matches("name", thing) or thing == "a":
                self.refuse(("a", thing))
            if thing != "b":
                self.refuse(("a", "b"), [("a", thing)])

    def test_arguments_are_copied(self):
        types, casts = ["b", "a"], [("a", "b")]
        catalog = Catalog(types, casts)
        self.assertEqual([types, casts], [["b", "a"], [("a", "b")]])
        types.append("c")
        casts.append(("b", "a"))
        self.assertEqual([catalog.types, catalog.casts], [("a", "b"), (("a", "b"),)])


class LookingTest(unittest.TestCase):
    def test_things_by_number(self):
        catalog = full()
        self.assertEqual(catalog.all_numbers, list(range(8)))
        self.assertEqual(catalog.next_number, 8)
        self.assertEqual([catalog.thing_of(number) for number in range(8)], [
            ("table", "main", "dept", (1, 2)),
            ("column", 0, "id", "text"),
            ("column", 0, "town", "text"),
            ("view", "own", "depts", STATEMENT, ("main",)),
            ("function", "main", "f", ("word", "text"), "word"),
            ("table", "main", "emp", (6, 7)),
            ("column", 5, "name", "text"),
            ("column", 5, "dept", "text"),
        ])

    def test_numbers_of_no_thing(self):
        for catalog in (small(), full()):
            for thing in samples.any_objects() + samples.very_large_objects() + [8, -1, "0", (0,)]:
                if isinstance(thing, bool) or not isinstance(thing, int) or thing not in catalog.all_numbers:
                    with self.assertRaises(Unknown):
                        catalog.thing_of(thing)

    def test_what_stands_where(self):
        catalog = full()
        self.assertEqual([catalog.standing_at("main", "dept"), catalog.standing_at("own", "depts")], [0, 3])
        self.assertEqual(catalog.standing_at("main", "emp"), 5)
        for schema, name in [("own", "dept"), ("main", "depts"), ("main", "f"), ("main", "id"), ("dept", "main")]:
            self.assertIsNone(catalog.standing_at(schema, name))
        self.assertEqual(catalog.function_at("main", "f", ("word", "text")), 4)
        for schema, name, types in [("main", "f", ("text", "word")), ("main", "f", ("word",)), ("own", "f", ("word", "text")),
                                    ("main", "g", ("word", "text")), ("main", "f", ["word", "text"]), ("main", "f", ())]:
            self.assertIsNone(catalog.function_at(schema, name, types))

    def test_columns(self):
        catalog = full()
        self.assertEqual([catalog.column_of(0, "id"), catalog.column_of(0, "town")], [1, 2])
        self.assertEqual([catalog.column_of(5, "name"), catalog.column_of(5, "dept")], [6, 7])
        for table, name in [(0, "name"), (1, "id"), (3, "id"), (4, "f"), (99, "id"), (-1, "id"), (False, "id"), (None, "id")]:
            self.assertIsNone(catalog.column_of(table, name))

    def test_facts(self):
        catalog = full()
        self.assertEqual(catalog.facts_of(0), [("key", (1,))])
        self.assertEqual(catalog.facts_of(5), [("in", 6, ("bo", "kim")), ("key", (6, 7)), ("ref", (7,), 0, (1,))])
        for number in (1, 3, 4, 8, -1, False, None):
            with self.assertRaises(Unknown):
                catalog.facts_of(number)
        self.assertEqual(after_deed(small(), DEEDS[0]).facts_of(0), [])

    def test_rights_and_rules(self):
        catalog = full()
        for number in range(9):
            self.assertIs(catalog.has_right("boss", number), number in (3, 5))
            self.assertIs(catalog.has_right("kim", number), False)
            self.assertEqual(catalog.rule_for("boss", number), (7, ("ulm",)) if number == 5 else None)
            self.assertIsNone(catalog.rule_for("kim", number))

    def test_bools_are_no_numbers(self):
        deeds = [("table", "main", "a", (("x", "text"),)), ("grant", "boss", "main", "a"),
                 ("rule", "boss", "main", "a", "x", ("v",))]
        catalog = after_deeds(Catalog(("text",)), deeds)
        self.assertIs(catalog.has_right("boss", 0), True)
        self.assertIs(catalog.has_right("boss", False), False)
        self.assertIsNone(catalog.rule_for("boss", False))
        self.assertIsNone(catalog.column_of(False, "x"))
        for call in (catalog.thing_of, catalog.facts_of):
            for thing in (False, True):
                with self.assertRaises(Unknown):
                    call(thing)

    def test_any_objects(self):
        for catalog in (small(), full()):
            for thing in samples.any_objects() + samples.very_large_objects():
                if thing != "main":
                    self.assertIsNone(catalog.standing_at(thing, "emp"))
                    self.assertIsNone(catalog.function_at(thing, "f", ("word", "text")))
                self.assertIsNone(catalog.standing_at("main", thing))
                self.assertIsNone(catalog.function_at("main", thing, ("word", "text")))
                self.assertIsNone(catalog.function_at("main", "f", thing))
                self.assertIsNone(catalog.column_of(0, thing))
                self.assertIsNone(catalog.column_of(thing, "nothing"))
                self.assertIs(catalog.has_right(thing, 5), False)
                self.assertIs(catalog.has_right("nobody", thing), False)
                self.assertIsNone(catalog.rule_for(thing, 5))
                self.assertIsNone(catalog.rule_for("nobody", thing))
                if isinstance(thing, bool) or not isinstance(thing, int) or thing not in catalog.all_numbers:
                    self.assertIsNone(catalog.column_of(thing, "id"))
                    self.assertIs(catalog.has_right("boss", thing), False)
                    self.assertIsNone(catalog.rule_for("boss", thing))
                    with self.assertRaises(Unknown):
                        catalog.facts_of(thing)

    def test_what_is_returned_is_new(self):
        catalog = full()
        catalog.all_numbers.append(9)
        catalog.facts_of(5).clear()
        self.assertEqual(catalog.all_numbers, list(range(8)))
        self.assertEqual(len(catalog.facts_of(5)), 3)
        self.assertEqual(catalog, full())

    def test_by_name(self):
        catalog = full()
        self.assertEqual(catalog.thing_of(number=1), ("column", 0, "id", "text"))
        self.assertEqual(catalog.standing_at(schema="main", name="emp"), 5)
        self.assertEqual(catalog.function_at(schema="main", name="f", types=("word", "text")), 4)
        self.assertEqual(catalog.column_of(table=0, name="id"), 1)
        self.assertEqual(catalog.facts_of(table=0), [("key", (1,))])
        self.assertIs(catalog.has_right(role="boss", number=5), True)
        self.assertEqual(catalog.rule_for(role="boss", number=5), (7, ("ulm",)))
        self.assertEqual(catalog.numbered_from(number=50).next_number, 50)


class NumberedFromTest(unittest.TestCase):
    def test_the_greater_number_is_next(self):
        catalog = full()
        for number in (-5, 0, 7, 8, 9, 100, 10**39):
            other = catalog.numbered_from(number)
            self.assertEqual(other.next_number, max(8, number))
            self.assertEqual(other, catalog)
            self.assertEqual(other.all_numbers, catalog.all_numbers)
            self.assertEqual(catalog.next_number, 8)

    def test_what_it_holds_goes_on(self):
        other = full().numbered_from(20)
        self.assertEqual([other.standing_at("main", "emp"), other.function_at("main", "f", ("word", "text"))], [5, 4])
        other = after_deed(other, ("table", "own", "emp", (("x", "text"),)))
        self.assertEqual([other.thing_of(20), other.thing_of(21)], [("table", "own", "emp", (21,)), ("column", 20, "x", "text")])
        self.assertEqual(other.next_number, 22)


class EqualTest(unittest.TestCase):
    def test_catalogs_of_the_same_are_equal(self):
        self.assertTrue(full() == full())
        self.assertFalse(full() != full())
        self.assertTrue(full() == full().numbered_from(77))
        self.assertTrue(small() == Catalog(["word", "text"], (("word", "text"),)))

    def test_the_order_of_deeds_means_nothing(self):
        behind = after_deeds(small(), DEEDS[:4] + [DEEDS[at] for at in (9, 7, 4, 10, 6, 5, 8)])
        self.assertEqual(behind, full())
        self.assertEqual(behind.facts_of(5), full().facts_of(5))

    def test_each_part_counts(self):
        catalog = full()
        self.assertFalse(Catalog(("text",)) == Catalog(("word",)))
        self.assertFalse(Catalog(("text", "word")) == small())
        self.assertFalse(Catalog(("a", "b"), [("a", "b")]) == Catalog(("a", "b"), [("b", "a")]))
        for deed in [("table", "own", "x", (("a", "text"),)), ("drop fact", "main", "dept", ("key", ("id",))),
                     ("revoke", "boss", "main", "emp"), ("drop rule", "boss", "main", "emp"), ("drop", "own", "depts"),
                     ("drop function", "main", "f", ("word", "text")), ("rename", "main", "emp", "staff"),
                     ("rule", "boss", "main", "emp", "dept", ("rom",)), ("rename column", "main", "emp", "name", "who")]:
            self.assertFalse(after_deed(catalog, deed) == catalog, deed)
            self.assertTrue(after_deed(catalog, deed) != catalog, deed)

    def test_undone_deeds_leave_an_equal_catalog(self):
        catalog = full()
        for deeds in [[("grant", "kim", "main", "emp"), ("revoke", "kim", "main", "emp")],
                      [("table", "own", "x", (("a", "text"),)), ("drop", "own", "x")],
                      [("rename", "main", "emp", "staff"), ("rename", "main", "staff", "emp")],
                      [("fact", "main", "emp", ("key", ("name",))), ("drop fact", "main", "emp", ("key", ("name",)))]]:
            self.assertEqual(after_deeds(catalog, deeds), catalog)

    def test_a_thing_made_anew_is_another_one(self):
        catalog = full()
        self.assertNotEqual(after_deeds(catalog, [("drop", "own", "depts"), DEEDS[1]]), catalog)

    def test_any_objects(self):
        for catalog in (small(), full()):
            for thing in samples.any_objects() + samples.very_large_objects():
                self.assertIs(catalog == thing, False)
                self.assertIs(thing == catalog, False)
                self.assertIs(catalog != thing, True)


class UnchangedTest(unittest.TestCase):
    def test_no_argument_is_changed(self):
        types, casts = ["word", "text"], [("word", "text")]
        before = copy.deepcopy([types, casts, DEEDS])
        catalog = after_deeds(Catalog(types, casts), DEEDS)
        self.assertEqual([types, casts, DEEDS], before)
        self.assertEqual(catalog, full())
