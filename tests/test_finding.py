"""[11], [12] and [24]: what names mean on a path."""

import copy
import itertools
import random
import unittest

from boundonce.catalogs import Catalog
from boundonce.deeds import after_deeds
from boundonce.finding import functions_for, meant, schemas_ahead
from tests import samples

STATEMENT = (False, (("column", (None, "x"), "x"),), ((None, "t", "t"),), ())
PATH = ("a", "b", "c", "d", "e", "f")


def made(*deeds):
    return after_deeds(Catalog(("text", "word")), list(deeds))


def table(schema, name="t"):
    return ("table", schema, name, (("x", "text"),))


def view(schema, name="t"):
    return ("view", schema, name, STATEMENT, ())


def function(schema, *types, name="f"):
    return ("function", schema, name, types, "text")


class MeantTest(unittest.TestCase):
    def test_with_a_schema(self):
        catalog = made(table("a"), view("b"), function("c", "text", name="t"))
        for path in ((), ("b",), ("a", "b"), PATH):
            self.assertEqual(meant(catalog, path, "a", "t"), 0)
            self.assertEqual(meant(catalog, path, "b", "t"), 2)
            for schema, name in [("c", "t"), ("a", "u"), ("b", "x"), ("d", "t")]:
                self.assertIsNone(meant(catalog, path, schema, name))

    def test_without_a_schema(self):
        catalog = made(table("a"), view("b"), table("c", "u"), function("d", "text", name="t"))
        for path, number in [((), None), (("a",), 0), (("b",), 2), (("a", "b"), 0), (("b", "a"), 2), (("c", "b", "a"), 2),
                             (("d", "c"), None), (("d", "c", "e", "f", "a", "b"), 0), (("d", "c", "e", "f", "b", "a"), 2)]:
            self.assertEqual(meant(catalog, path, None, "t"), number, path)
        self.assertEqual(meant(catalog, PATH, None, "u"), 3)
        self.assertIsNone(meant(catalog, PATH, None, "f"))

    def test_number_none_is_no_absence(self):
        self.assertEqual(meant(made(table("b"), table("c")), ("b", "c"), None, "t"), 0)
        self.assertEqual(meant(made(table("b"), table("c")), ("c", "b"), None, "t"), 2)

    def test_schemas_ahead(self):
        catalog = made(table("c"), view("e"), table("b", "u"), function("a", "text", name="t"))
        self.assertEqual(schemas_ahead(catalog, PATH, "t"), ["a", "b"])
        self.assertEqual(schemas_ahead(catalog, ("f", "e", "d", "c", "b", "a"), "t"), ["f"])
        self.assertEqual(schemas_ahead(catalog, ("c", "a"), "t"), [])
        self.assertEqual(schemas_ahead(catalog, ("b", "a", "d"), "t"), ["b", "a", "d"])
        self.assertEqual(schemas_ahead(catalog, (), "t"), [])
        self.assertEqual(schemas_ahead(catalog, PATH, "u"), ["a"])
        self.assertEqual(schemas_ahead(catalog, PATH, "w"), list(PATH))

    def test_each_schema_of_a_path(self):
        for size in range(7):
            path = PATH[:size]
            for at in range(size):
                catalog = made(table(path[at]))
                self.assertEqual(meant(catalog, path, None, "t"), 0)
                self.assertEqual(schemas_ahead(catalog, path, "t"), list(path[:at]))


class FunctionsForTest(unittest.TestCase):
    def setUp(self):
        self.catalog = made(function("b", "word"), function("a", "text"), function("b", "text"), function("b", "text", "word"),
                            function("c", "word", "text"), function("c", "text", "word"), table("a", "f"),
                            function("a", "word", name="g"))

    def test_with_a_schema(self):
        for path in ((), ("a", "b"), PATH):
            self.assertEqual(functions_for(self.catalog, path, "b", "f", 1), [0, 2])
            self.assertEqual(functions_for(self.catalog, path, "a", "f", 1), [1])
            self.assertEqual(functions_for(self.catalog, path, "c", "f", 2), [4, 5])
            self.assertEqual(functions_for(self.catalog, path, "a", "f", 2), [])
            self.assertEqual(functions_for(self.catalog, path, "d", "f", 1), [])

    def test_without_a_schema_the_first_of_each_list(self):
        for path, size, numbers in [((), 1, []), (("a",), 1, [1]), (("a", "b"), 1, [0, 1]), (("b", "a"), 1, [0, 2]),
                                    (("b", "c"), 2, [3, 4]), (("c", "b"), 2, [4, 5]), (("a",), 2, []), (("d",), 1, []),
                                    (("d", "a", "e", "b", "f", "c"), 2, [3, 4])]:
            self.assertEqual(functions_for(self.catalog, path, None, "f", size), numbers, path)
        self.assertEqual(functions_for(self.catalog, PATH, None, "g", 1), [8])
        self.assertEqual(functions_for(self.catalog, PATH, None, "h", 1), [])

    def test_other_sizes(self):
        for size in (0, 3, 4, 30, -1):
            self.assertEqual(functions_for(self.catalog, PATH, None, "f", size), [])
            self.assertEqual(functions_for(self.catalog, PATH, "b", "f", size), [])

    def test_what_is_returned_is_new(self):
        functions_for(self.catalog, PATH, None, "f", 1).clear()
        schemas_ahead(self.catalog, PATH, "w").clear()
        self.assertEqual(functions_for(self.catalog, PATH, None, "f", 1), [0, 1])
        self.assertEqual(schemas_ahead(self.catalog, PATH, "w"), list(PATH))

    def test_by_name(self):
        self.assertEqual(functions_for(catalog=self.catalog, path=("a",), schema=None, name="f", size=1), [1])
        self.assertEqual(meant(catalog=self.catalog, path=("a",), schema=None, name="f"), 6)
        self.assertEqual(schemas_ahead(catalog=self.catalog, path=("b", "a"), name="f"), ["b"])

    def test_any_catalogs(self):
        for seed in range(20):
            source = random.Random(seed)
            catalog = any_catalog(source)
            before = copy.deepcopy(catalog)
            for path in paths(samples.SCHEMAS + ["far"]):
                for schema, name in itertools.product([None, "main", "own", "far"], samples.TABLES):
                    self.assertEqual(meant(catalog, path, schema, name), slow_meant(catalog, path, schema, name))
                    for size in (0, 1, 2, 3):
                        self.assertEqual(functions_for(catalog, path, schema, name, size),
                                         slow_functions(catalog, path, schema, name, size))
            self.assertEqual(catalog, before)


def any_catalog(source):
    """Return a catalog with many functions of few names."""
    deeds = {}
    for _ in range(40):
        deed = samples.make_deed(source)
        if deed[0] in ("table", "view", "function") and "number" not in repr(deed):
            place = deed[1:4] if deed[0] == "function" else deed[1:3]
            deeds.setdefault(place, deed)
    return made(*deeds.values())


def paths(names):
    return [path for size in range(len(names) + 1) for path in itertools.permutations(names, size)]


def things(catalog):
    return [(number, catalog.thing_of(number)) for number in catalog.all_numbers]


def slow_meant(catalog, path, schema, name):
    """Find a table or view by going through all things."""
    for at in [schema] if schema is not None else path:
        for number, thing in things(catalog):
            if thing[0] in ("table", "view") and thing[1:3] == (at, name):
                return number
    return None


def slow_functions(catalog, path, schema, name, size):
    """Find the functions of a call by going through all things."""
    found = {}
    for at in [schema] if schema is not None else path:
        for number, thing in things(catalog):
            if thing[:3] == ("function", at, name) and len(thing[3]) == size:
                found.setdefault(thing[3], number)
    return sorted(found.values())
