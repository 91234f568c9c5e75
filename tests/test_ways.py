"""[30]: which schemas matter, and the bindings by paths."""

import itertools
import random
import unittest

from boundonce.texts import read
from boundonce.ways import mattering, path_classes
from tests import samples, worlds
from tests.built import catalog_of, function, raised, table, view
from tests.test_watch import bound_or_none


class MatteringTest(unittest.TestCase):
    def setUp(self):
        self.catalog = catalog_of(
            *table("a.t", "x"), *view("b.t", "select x from u", "d", "boss"), *table("c.u", "x"), *function("d.t", "text"), *function("e.f", "text"),
            *function("f.f", "text text"), *function("g.f", "word"), *function("h.g", "num"), *table("i.x", "t"))

    def check(self, text, schemas):
        self.assertEqual(mattering(self.catalog, read(text)), schemas)

    def test_tables_and_views_under_the_name_of_a_source(self):
        self.check("select x from t", ["a", "b"])
        self.check("select x from t, u", ["a", "b", "c"])
        self.check("select x from u t", ["c"])
        self.check("select x from nothing", [])
        self.check("select t.* from nothing t where t.x in ('a')", [])

    def test_sources_with_a_schema(self):
        self.check("select x from a.t", [])
        self.check("select t.x from a.t, c.u", [])
        self.check("select a.x from a.t a, u", ["c"])
        self.check("select a.x from b.t a, t", ["a", "b"])

    def test_functions_under_the_name_of_a_call_with_as_many_types(self):
        self.check("select f(x) as k from a.t", ["e", "g"])
        self.check("select f(x, x) as k from a.t", ["f"])
        self.check("select f(x) as k, f('a', 'b') as l from a.t", ["e", "f", "g"])
        self.check("select t(x) as k from a.t", ["d"])
        self.check("select nothing(x) as k, g(x, x) as l from a.t", [])

    def test_calls_with_a_schema_and_calls_within_others(self):
        self.check("select e.f(x) as k from a.t", [])
        self.check("select e.f(g(x)) as k from a.t", ["h"])
        self.check("select e.f(g(f('a', x))) as k from a.t", ["f", "h"])
        self.check("select f(g(x), e.f(t(x))) as k from u", ["c", "d", "f", "h"])

    def test_views_are_not_opened_and_columns_do_not_matter(self):
        self.check("select x from b.t", [])
        self.check("select t from i.x", [])
        self.check("select 'a' as t, x as u from i.x", [])

    def test_things_that_went_and_came(self):
        catalog = catalog_of(*table("a.t", "x"), *table("b.t", "x"), ("drop", "a", "t"), ("rename", "b", "t", "u"), *table("c.u", "x"), ("rename", "c", "u", "t"))
        self.assertEqual(mattering(catalog, read("select x from t")), ["c"])
        self.assertEqual(mattering(catalog, read("select x from u")), ["b"])

    def test_errors(self):
        for thing in samples.any_objects() + samples.very_large_objects():
            self.assertEqual(raised(mattering, self.catalog, thing), "InvalidStatement")
        self.assertEqual(mattering(statement=read("select x from t"), catalog=self.catalog), ["a", "b"])


def slow_classes(catalog, statement, role):
    """Return the pairs of bindings and paths, each path compared with all pairs that are there."""
    schemas = mattering(catalog, statement)
    paths = [path for size in range(len(schemas) + 1) for path in itertools.product(schemas, repeat=size) if len(set(path)) == size]
    found = []
    for path in sorted(paths, key=lambda path: (len(path), path)):
        binding = bound_or_none(catalog, statement, path, role)
        same = [pair for pair in found if pair[0] == binding]
        if same:
            same[0][1].append(path)
        else:
            found.append((binding, [path]))
    return found


class PathClassesTest(unittest.TestCase):
    def test_no_schema_matters(self):
        catalog = catalog_of(*table("main.t", "x", "boss"))
        binding = (False, (("x", ("column", 0, 1)),), (("table", 0, None),), ())
        self.assertEqual(path_classes(catalog, read("select x from main.t"), "boss"), [(binding, [()])])
        self.assertEqual(path_classes(catalog, read("select x from nothing"), "boss"), [(None, [()])])
        self.assertEqual(path_classes(catalog, read("select x from main.t"), "kim"), [(None, [()])])

    def test_tables_in_two_schemas(self):
        catalog = catalog_of(*table("a.t", "x", "boss"), *table("b.t", "x", "boss"))
        one, two = [(False, (("x", ("column", 0, number + 1)),), (("table", number, None),), ()) for number in (0, 2)]
        self.assertEqual(path_classes(catalog, read("select x from t"), "boss"), [(None, [()]), (one, [("a",), ("a", "b")]), (two, [("b",), ("b", "a")])])
        self.assertEqual(path_classes(catalog, read("select x from t"), "kim"), [(None, [(), ("a",), ("b",), ("a", "b"), ("b", "a")])])

    def test_refused_on_some_paths(self):
        catalog = catalog_of(*table("b.t", "x", "boss"), *table("a.t", "y", "boss"), *function("a.f", "text"), *function("c.f", "text"))
        found = path_classes(catalog, read("select f(x) as k from t"), "boss")
        self.assertEqual([[len(path) for path in paths] for _, paths in found],
                         [[0, 1, 1, 1, 2, 2, 2, 3, 3, 3], [2, 3], [2, 2, 3, 3]])
        self.assertEqual(found[0], (None, [(), ("a",), ("b",), ("c",), ("a", "b"), ("a", "c"), ("c", "a"), ("a", "b", "c"), ("a", "c", "b"), ("c", "a", "b")]))
        self.assertEqual(found[1][1], [("b", "a"), ("b", "a", "c")])
        self.assertEqual(found[2][1], [("b", "c"), ("c", "b"), ("b", "c", "a"), ("c", "b", "a")])

    def test_four_schemas_that_matter(self):
        deeds = []
        for schema in "dbca":
            deeds += table(schema + ".t", "x", "boss") + function(schema + ".f", "text")
        catalog = catalog_of(*deeds, *table("e.u", "x"))
        statement = read("select f(x) as k from t")
        found = path_classes(catalog, statement, "boss")
        self.assertEqual(found, slow_classes(catalog, statement, "boss"))
        self.assertEqual([len(paths) for _, paths in found], [1, 16, 16, 16, 16])
        self.assertEqual([paths[0] for _, paths in found], [(), ("a",), ("b",), ("c",), ("d",)])

    def test_errors(self):
        catalog = catalog_of(*table("main.t", "x", "boss"))
        for thing in samples.any_objects() + samples.very_large_objects():
            self.assertEqual(raised(path_classes, catalog, thing, "boss"), "InvalidStatement")
            self.assertEqual(raised(path_classes, catalog, thing, None), "InvalidStatement")
        for thing in ["", "in", "A", "abcdefghi", None, True, 0, ("boss",), ["boss"], {}]:
            self.assertEqual(raised(path_classes, catalog, read("select x from t"), thing), "InvalidName")
        statement = read("select x from t")
        path_classes(catalog, statement, "boss")[0][1].clear()
        self.assertEqual(path_classes(role="boss", statement=statement, catalog=catalog)[0], (None, [()]))

    def test_a_path_has_the_binding_of_what_matters_of_it(self):
        many = 0
        for seed in range(120):
            source = random.Random(seed)
            catalog = worlds.make_catalog(source, 45)
            for _ in range(6):
                statement, _, role = worlds.make_any(source, catalog)
                schemas = mattering(catalog, statement)
                found = path_classes(catalog, statement, role)
                self.assertEqual(found, slow_classes(catalog, statement, role))
                many += len(found) > 2
                by_path = {path: binding for binding, paths in found for path in paths}
                path = tuple(worlds.some(source, worlds.SCHEMAS + ["new", "other", "more"], 0, 6))
                short = tuple([schema for schema in path if schema in schemas])
                self.assertEqual(bound_or_none(catalog, statement, path, role), by_path[short])
        self.assertGreater(many, 30)
