"""[11] to [14] and [26]: bindings, and what refuses a statement."""

import copy
import random
import unittest

from boundonce.bindings import binding_of, is_binding, refusal
from boundonce.deeds import after_deed
from boundonce.texts import read
from tests import samples, slow, worlds
from tests.built import catalog_of, function, raised, table, view

SIX = ("a", "b", "c", "d", "e", "f")


def told(binding):
    return binding[1]


class BindingCase(unittest.TestCase):
    def binds(self, catalog, text, path, binding, role="boss"):
        """The statement has this binding, and no refusal."""
        statement, path = read(text), tuple(path.split())
        self.assertEqual(binding_of(catalog, statement, path, role), binding)
        self.assertIs(is_binding(catalog, statement, path, role, binding), True)
        self.assertIsNone(refusal(catalog, statement, path, role))

    def refuses(self, catalog, text, path, why, role="boss"):
        """The statement is refused by this word, there."""
        statement, path = read(text), tuple(path.split())
        self.assertEqual(refusal(catalog, statement, path, role), why)
        self.assertEqual(raised(binding_of, catalog, statement, path, role), why[0])
        self.assertIs(is_binding(catalog, statement, path, role, None), False)


class SourcesTest(BindingCase):
    def test_with_a_schema_whatever_the_path(self):
        catalog = catalog_of(*table("main.t", "x, y", "boss"), *table("own.t", "x", "boss"))
        for path in ("", "own", "own main", "a b c d e f"):
            self.binds(catalog, "select x from main.t", path,
                       (False, (("x", ("column", 0, 1)),), (("table", 0, None),), ()))
        self.binds(catalog, "select x from own.t", "main", (False, (("x", ("column", 0, 4)),), (("table", 3, None),), ()))

    def test_without_a_schema_the_first_one_on_the_path(self):
        catalog = catalog_of(*table("main.t", "x", "boss"), *table("own.t", "x", "boss"), *table("own.u", "x", "boss"))
        for path, number in [("main own", 0), ("own main", 2), ("main", 0), ("other own", 2), ("a b c d e own", 2)]:
            self.binds(catalog, "select x from t", path,
                       (False, (("x", ("column", 0, number + 1)),), (("table", number, None),), ()))
        self.binds(catalog, "select x from u", "main own", (False, (("x", ("column", 0, 5)),), (("table", 4, None),), ()))
        for path in ("", "other", "a b c d e f"):
            self.refuses(catalog, "select x from t", path, ("Unknown", (), "source", 0))

    def test_sources_in_order_with_their_labels(self):
        catalog = catalog_of(*table("main.t", "x, y", "boss"), *table("main.u", "x", "boss"))
        self.binds(catalog, "select b.x as k, a.x as l, t.y from u a, t b, t", "main",
                   (False, (("k", ("column", 1, 1)), ("l", ("column", 0, 4)), ("y", ("column", 2, 2))),
                    (("table", 3, None), ("table", 0, None), ("table", 0, None)), ()))

    def test_the_right_on_what_stands_there(self):
        catalog = catalog_of(*table("main.t", "x", "boss"), *table("main.u", "x"), *view("main.v", "select x from u", "main", "kim"))
        self.refuses(catalog, "select x from u", "main", ("NoRight", (), "source", 0))
        self.refuses(catalog, "select t.x from t, u", "main", ("NoRight", (), "source", 1))
        self.refuses(catalog, "select x from t", "main", ("NoRight", (), "source", 0), role="kim")
        self.refuses(catalog, "select x from v", "main", ("NoRight", (), "source", 0))

    def test_the_right_is_not_asked_within_a_view(self):
        catalog = catalog_of(*table("main.u", "x"), *view("main.v", "select x from u", "main"),
                             *view("main.w", "select x from v", "main", "kim"))
        inner = (False, (("x", ("column", 0, 1)),), (("table", 0, None),), ())
        middle = (False, (("x", ("column", 0, 0)),), (("view", 2, inner),), ())
        self.binds(catalog, "select x from w", "main",
                   (False, (("x", ("column", 0, 0)),), (("view", 3, middle),), ()), role="kim")

    def test_rules_of_the_role_within_views_too(self):
        catalog = catalog_of(*table("main.t", "x, y", "boss", "kim"), *view("main.v", "select y from t", "main", "boss", "kim"),
                             ("rule", "boss", "main", "t", "y", ("a", "b")), ("rule", "lee", "main", "t", "x", ("c",)))
        for role, rule in [("boss", (2, ("a", "b"))), ("kim", None)]:
            inner = (False, (("y", ("column", 0, 2)),), (("table", 0, rule),), ())
            self.binds(catalog, "select t.x, v.y from t, v", "main",
                       (False, (("x", ("column", 0, 1)), ("y", ("column", 1, 0))), (("table", 0, rule), ("view", 3, inner)), ()),
                       role=role)

    def test_unknown_before_the_right_and_sources_in_order(self):
        catalog = catalog_of(*table("main.t", "x"), *table("main.u", "x", "boss"))
        self.refuses(catalog, "select x from nothing, t", "main", ("Unknown", (), "source", 0))
        self.refuses(catalog, "select x from t, nothing", "main", ("NoRight", (), "source", 0))
        self.refuses(catalog, "select z from u, main.nothing", "main", ("Unknown", (), "source", 1))


class ViewsTest(BindingCase):
    def test_a_view_has_its_own_path(self):
        catalog = catalog_of(*table("main.t", "x"), *table("own.t", "x"), *view("own.v", "select x as k from t", "main own", "boss"))
        inner = (False, (("k", ("column", 0, 1)),), (("table", 0, None),), ())
        for path in ("own", "own main"):
            self.binds(catalog, "select k from v", path, (False, (("k", ("column", 0, 0)),), (("view", 4, inner),), ()))

    def test_views_within_views_with_conditions(self):
        catalog = catalog_of(
            *table("main.t", "x, y"), *view("main.u", "select x, y as z from t where y in ('a')", "main"),
            *view("main.v", "select z from u, t where u.x = t.x", "main"), *view("main.w", "select v.z as k, u.x from v, u", "main", "boss"))
        one = (False, (("x", ("column", 0, 1)), ("z", ("column", 0, 2))), (("table", 0, None),), (("in", ("column", 0, 2), ("a",)),))
        two = (False, (("z", ("column", 0, 1)),), (("view", 3, one), ("table", 0, None)),
               (("equal", ("column", 0, 0), ("column", 1, 1)),))
        three = (False, (("k", ("column", 0, 0)), ("x", ("column", 1, 0))), (("view", 4, two), ("view", 3, one)), ())
        self.binds(catalog, "select distinct w.*, x as l from w", "main",
                   (True, (("k", ("column", 0, 0)), ("x", ("column", 0, 1)), ("l", ("column", 0, 1))), (("view", 5, three),), ()))

    def test_a_view_that_is_opened_within_itself(self):
        catalog = catalog_of(*view("main.u", "select x from main.u", "", "boss"))
        self.refuses(catalog, "select x from main.u", "", ("Ring", (0,), "source", 0))
        catalog = catalog_of(*table("main.t", "x"), *view("main.u", "select t.x from t, v", "main", "boss"),
                             *view("main.v", "select x from w", "main", "boss"), *view("main.w", "select x from u", "main", "boss"))
        self.refuses(catalog, "select x from u", "main", ("Ring", (2, 3, 4), "source", 0))
        self.refuses(catalog, "select x from v", "main", ("Ring", (3, 4, 2), "source", 1))
        self.refuses(catalog, "select x from main.w", "", ("Ring", (4, 2, 3), "source", 0))

    def test_a_view_twice_is_no_ring(self):
        catalog = catalog_of(*table("main.t", "x"), *view("main.u", "select x from t", "main", "boss"),
                             *view("main.v", "select a.x from u a, u b", "main", "boss"))
        inner = (False, (("x", ("column", 0, 1)),), (("table", 0, None),), ())
        outer = (False, (("x", ("column", 0, 0)),), (("view", 2, inner), ("view", 2, inner)), ())
        self.binds(catalog, "select v.x from u, v, u b", "main",
                   (False, (("x", ("column", 1, 0)),), (("view", 2, inner), ("view", 3, outer), ("view", 2, inner)), ()))

    def test_a_ring_that_is_closed_by_another_name(self):
        catalog = catalog_of(*view("main.u", "select x from v", "own main", "boss"), *table("own.v", "x"),
                             *view("main.v", "select x from main.u", "", "boss"))
        inner = (False, (("x", ("column", 0, 2)),), (("table", 1, None),), ())
        self.assertIsNone(refusal(catalog, read("select x from u"), ("main",), "boss"))
        self.assertTrue(is_binding(catalog, read("select x from main.u"), (), "boss",
                                   (False, (("x", ("column", 0, 0)),), (("view", 0, inner),), ())))
        behind = after_deed(catalog, ("drop", "own", "v"))
        self.refuses(behind, "select x from u", "main", ("Ring", (0, 3), "source", 0))

    def test_whatever_refuses_the_statement_of_a_view(self):
        catalog = catalog_of(
            *table("main.t", "x, y word"), *view("main.lost", "select k from t", "main", "boss"),
            *view("main.gone", "select t.x from t, nothing", "main", "boss"), *view("main.two", "select a.y, x from t a, t b", "main", "boss"),
            *view("main.calls", "select x, f(x) as k from t", "main", "boss"), *view("main.types", "select x from t where x in ('a') and x = y", "main", "boss"),
            *view("main.outer", "select t.x from t, two", "main", "boss"))
        for name, why in [("lost", ("Unknown", (3,), "told", 0)), ("gone", ("Unknown", (4,), "source", 1)),
                          ("two", ("Ambiguous", (5,), "told", 1)), ("calls", ("Unknown", (6,), "told", 1)),
                          ("types", ("Mismatch", (7,), "condition", 1)), ("outer", ("Ambiguous", (8, 5), "told", 1))]:
            self.refuses(catalog, "select x from " + name, "main", why)
        # The source behind a refused view, and what is told, are not looked at any more.
        self.refuses(catalog, "select nothing from lost, nothing", "main", ("Unknown", (3,), "told", 0))
        self.refuses(catalog, "select nothing from nothing, lost", "main", ("Unknown", (), "source", 0))


class ColumnsTest(BindingCase):
    def setUp(self):
        self.catalog = catalog_of(*table("main.t", "x, y", "boss"), *table("main.u", "x, z", "boss"),
                                  *view("main.v", "select z as y, x as k from u", "main", "boss"))

    def test_a_column_without_a_label(self):
        self.binds(self.catalog, "select y, z as w from t, u", "main",
                   (False, (("y", ("column", 0, 2)), ("w", ("column", 1, 5))), (("table", 0, None), ("table", 3, None)), ()))
        for text in ("select x from t, u", "select y from t, v", "select x from t a, t b", "select y from v a, v b"):
            self.refuses(self.catalog, text, "main", ("Ambiguous", (), "told", 0))
        for text in ("select w from t, u", "select x from v", "select t from t"):
            self.refuses(self.catalog, text, "main", ("Unknown", (), "told", 0))

    def test_a_column_with_a_label(self):
        self.refuses(self.catalog, "select t.x from t a", "main", ("Unknown", (), "told", 0))
        self.refuses(self.catalog, "select t.z from t, u", "main", ("Unknown", (), "told", 0))
        self.refuses(self.catalog, "select v.z from v, u", "main", ("Unknown", (), "told", 0))
        self.binds(self.catalog, "select v.y from t, v", "main",
                   (False, (("y", ("column", 1, 0)),),
                    (("table", 0, None), ("view", 6, (False, (("y", ("column", 0, 5)), ("k", ("column", 0, 4))), (("table", 3, None),), ()))), ()))

    def test_stars(self):
        binding = binding_of(self.catalog, read("select u.*, t.y as w, v.*, 'a' as b, u.* from t, v, u"), ("main",), "boss")
        self.assertEqual(told(binding), (
            ("x", ("column", 2, 4)), ("z", ("column", 2, 5)), ("w", ("column", 0, 2)), ("y", ("column", 1, 0)),
            ("k", ("column", 1, 1)), ("b", "a"), ("x", ("column", 2, 4)), ("z", ("column", 2, 5))))
        self.refuses(self.catalog, "select t.x, u.*, w.* from t, u", "main", ("Unknown", (), "told", 2))
        self.refuses(self.catalog, "select t.* from t a", "main", ("Unknown", (), "told", 0))

    def test_columns_that_came_and_went(self):
        catalog = catalog_of(*table("main.t", "x, y", "boss"), ("drop column", "main", "t", "x"), ("column", "main", "t", "z", "word"),
                             ("rename column", "main", "t", "y", "x"))
        self.binds(catalog, "select t.*, x as k from t", "main",
                   (False, (("x", ("column", 0, 2)), ("z", ("column", 0, 3)), ("k", ("column", 0, 2))), (("table", 0, None),), ()))
        self.refuses(catalog, "select y from t", "main", ("Unknown", (), "told", 0))

    def test_names_may_be_told_twice(self):
        self.binds(self.catalog, "select 'a' as x, y as x, 'a' as x from t", "main",
                   (False, (("x", "a"), ("x", ("column", 0, 2)), ("x", "a")), (("table", 0, None),), ()))


class CallsTest(BindingCase):
    def setUp(self):
        self.catalog = catalog_of(
            *table("main.t", "x, y word, z num", "boss"), *function("main.f", "text", "word"), *function("main.f", "word", "num"),
            *function("own.f", "text", "text"), *function("own.g", "text word", "text"), *function("main.g", "word text", "num"),
            *function("own.h", "num"))

    def calls(self, text, path, call):
        self.assertEqual(told(binding_of(self.catalog, read("select " + text + " as k from main.t"), tuple(path.split()), "boss"))[0][1], call)

    def fails(self, text, path, word, index=0):
        self.refuses(self.catalog, "select " + text + " as k from main.t", path, (word, (), "told", index))

    def test_the_best_one(self):
        self.calls("f(x)", "main own", ("call", 4, (("column", 0, 1),)))
        self.calls("f(x)", "own main", ("call", 6, (("column", 0, 1),)))
        self.calls("f(y)", "main own", ("call", 5, (("column", 0, 2),)))
        self.calls("f(y)", "own", ("call", 6, (("column", 0, 2),)))
        self.calls("own.f(y)", "main", ("call", 6, (("column", 0, 2),)))
        self.calls("f(z)", "main", ("call", 5, (("column", 0, 3),)))
        self.calls("own.f('a')", "", ("call", 6, ("a",)))
        self.calls("own.g(x, y)", "", ("call", 7, (("column", 0, 1), ("column", 0, 2))))

    def test_none_fits(self):
        for text, path in [("f(z)", "own"), ("own.f(z)", "main"), ("f(x)", ""), ("f(x)", "other"), ("h(x)", "own"), ("k(x)", "main own"),
                           ("f(x, y)", "main own"), ("main.h(z)", "own"), ("own.g(y, x)", ""), ("t(x)", "main")]:
            self.fails(text, path, "Unknown")

    def test_none_is_the_best(self):
        self.fails("f('a')", "main", "Ambiguous")
        self.fails("g(y, y)", "main own", "Ambiguous")
        self.fails("g('a', 'b')", "main own", "Ambiguous")
        self.fails("main.f('a')", "", "Ambiguous")

    def test_calls_within_one_another(self):
        self.calls("f(f(x))", "main", ("call", 5, (("call", 4, (("column", 0, 1),)),)))
        self.calls("f(f(f(x)))", "own", ("call", 6, (("call", 6, (("call", 6, (("column", 0, 1),)),)),)))
        self.calls("g(own.f(y), main.f(x))", "own", ("call", 7, (("call", 6, (("column", 0, 2),)), ("call", 4, (("column", 0, 1),)))))
        self.calls("h(f(f(x)))", "main own", ("call", 9, (("call", 5, (("call", 4, (("column", 0, 1),)),)),)))
        self.fails("h(f(x))", "main own", "Unknown")

    def test_inner_ones_first_from_left_to_right(self):
        catalog = catalog_of(*table("main.t", "x", "boss"), *table("main.u", "x, y", "boss"), *function("main.f", "text"), *function("main.f", "word"))
        for text, word in [("g(x)", "Ambiguous"), ("g(k, x)", "Unknown"), ("g(x, k)", "Ambiguous"), ("f(x, f('a'))", "Ambiguous"),
                           ("f(k(y), x)", "Unknown"), ("f(f('a'), k)", "Ambiguous"), ("f(nothing(f('a')))", "Ambiguous")]:
            self.refuses(catalog, "select " + text + " as k from t, u", "main", (word, (), "told", 0))

    def test_a_call_that_a_view_tells_is_handed_in_with_its_type(self):
        catalog = catalog_of(*table("main.t", "x"), *function("main.f", "text", "num"), *function("own.f", "num", "word"),
                             *view("main.v", "select f(x) as k from t", "main", "boss"))
        binding = binding_of(catalog, read("select f(k) as l from main.v"), ("own",), "boss")
        self.assertEqual(told(binding), (("l", ("call", 3, (("column", 0, 0),))),))
        self.refuses(catalog, "select f(k) as l from v", "main", ("Unknown", (), "told", 0))

    def test_the_path_of_a_view_for_its_calls(self):
        catalog = catalog_of(*table("main.t", "x"), *function("main.f", "text"), *function("own.f", "text"),
                             *view("main.v", "select f(x) as k from t", "main own", "boss"))
        binding = binding_of(catalog, read("select k, f(k) as l from main.v"), ("own", "main"), "boss")
        self.assertEqual(binding[2][0][2][1], (("k", ("call", 2, (("column", 0, 1),))),))
        self.assertEqual(told(binding), (("k", ("column", 0, 0)), ("l", ("call", 3, (("column", 0, 0),)))))


class ConditionsTest(BindingCase):
    def setUp(self):
        self.catalog = catalog_of(
            *table("main.t", "x, y word", "boss"), *table("main.u", "x, z", "boss"), *function("main.f", "text", "text"),
            *view("main.v", "select f(z) as k, z from u", "main", "boss"), *view("main.w", "select k as l, z as m from v", "main", "boss"))

    def refused(self, condition, word, index=0, sources="t, u, v, w"):
        self.refuses(self.catalog, "select t.x from " + sources + " where " + condition, "main", (word, (), "condition", index))

    def test_equal_and_in(self):
        binding = binding_of(self.catalog, read("select t.x from t, v, w where t.x = z and y in ('a', 'b') and m = v.z and m = m"), ("main",), "boss")
        self.assertEqual(binding[3], (
            ("equal", ("column", 0, 1), ("column", 1, 1)), ("in", ("column", 0, 2), ("a", "b")),
            ("equal", ("column", 2, 1), ("column", 1, 1)), ("equal", ("column", 2, 1), ("column", 2, 1))))

    def test_two_types(self):
        self.refused("t.x = y", "Mismatch")
        self.refused("y = v.z", "Mismatch")
        self.refused("m = y", "Mismatch")
        self.refused("t.x = u.x and t.x = y", "Mismatch", 1)

    def test_a_call_through_views_too(self):
        for condition in ("k = t.x", "t.x = k", "k in ('a')", "l in ('a')", "t.x = l", "l = l"):
            self.refused(condition, "OnCall")
        self.refused("t.x = m and v.k = w.l", "OnCall", 1)

    def test_the_left_column_before_the_right_one(self):
        for condition, word in [("t.k = x", "Unknown"), ("x = t.k", "Ambiguous"), ("k = x", "OnCall"), ("x = k", "Ambiguous"), ("k = nothing", "OnCall"),
                                ("nothing = k", "Unknown"), ("l = y", "OnCall"), ("y = l", "OnCall"), ("y = nothing", "Unknown"), ("y = x", "Ambiguous")]:
            self.refused(condition, word)

    def test_unknown_and_ambiguous(self):
        self.refused("nothing in ('a')", "Unknown")
        self.refused("a.x in ('a')", "Unknown")
        self.refused("x in ('a')", "Ambiguous")
        self.refused("t.x in ('a') and y in ('a') and z in ('a')", "Ambiguous", 2)

    def test_what_is_told_before_the_conditions(self):
        self.refuses(self.catalog, "select nothing from t where nothing in ('a')", "main", ("Unknown", (), "told", 0))
        self.refuses(self.catalog, "select t.*, f(y) as k, x from t, u where nothing in ('a')", "main", ("Ambiguous", (), "told", 2))
        self.refuses(self.catalog, "select t.* from t where x in ('a') and nothing = x", "main", ("Unknown", (), "condition", 1))


class FormsTest(unittest.TestCase):
    def setUp(self):
        self.catalog = catalog_of(*table("main.t", "x, y", "boss"), *function("main.f", "text"), ("rule", "boss", "main", "t", "x", ("a",)),
                                  *view("main.v", "select x, f(x) as k from t", "main", "boss"))
        self.statement = read("select distinct v.*, f(y) as l, 'a' as m from t, v where t.x = v.x and y in ('a')")
        self.arguments = (self.catalog, self.statement, ("main",), "boss")

    def test_invalid_arguments_in_order(self):
        for thing in samples.any_objects() + samples.very_large_objects():
            for path, role in [(("main",), "boss"), (None, None)]:
                self.assertEqual(raised(binding_of, self.catalog, thing, path, role), "InvalidStatement")
                self.assertEqual(raised(refusal, self.catalog, thing, path, role), "InvalidStatement")
                self.assertEqual(raised(is_binding, self.catalog, thing, path, role, 1), "InvalidStatement")
            if thing not in ((), ("a",), ("b", "a"), ("a", "b")):
                for role in ("boss", None):
                    self.assertEqual(raised(binding_of, self.catalog, self.statement, thing, role), "InvalidPath")
                    self.assertEqual(raised(refusal, self.catalog, self.statement, thing, role), "InvalidPath")
                    self.assertEqual(raised(is_binding, self.catalog, self.statement, thing, role, 1), "InvalidPath")
        for thing in ["", "in", "Boss", "abcdefghi", 0, True, None, ("boss",), ["boss"], {}]:
            self.assertEqual(raised(binding_of, self.catalog, self.statement, ("main",), thing), "InvalidName")
            self.assertEqual(raised(refusal, self.catalog, self.statement, (), thing), "InvalidName")
            self.assertEqual(raised(is_binding, self.catalog, self.statement, (), thing, 1), "InvalidName")

    def test_invalid_arguments_before_what_refuses(self):
        statement = read("select x from nothing")
        self.assertEqual(raised(binding_of, self.catalog, statement, ["main"], "boss"), "InvalidPath")
        self.assertEqual(raised(binding_of, self.catalog, statement, ("main", "main"), "boss"), "InvalidPath")
        self.assertEqual(raised(binding_of, self.catalog, statement, SIX + ("g",), "boss"), "InvalidPath")
        self.assertEqual(raised(binding_of, self.catalog, statement, ("main",), "from"), "InvalidName")

    def test_is_binding_for_any_object(self):
        binding = binding_of(*self.arguments)
        self.assertIs(is_binding(*self.arguments, copy.deepcopy(binding)), True)
        for thing in samples.any_objects() + samples.very_large_objects() + [binding[1], (binding,), [binding]]:
            self.assertIs(is_binding(*self.arguments, thing), False)

    def test_is_binding_for_bindings_with_a_part_exchanged(self):
        binding = binding_of(*self.arguments)
        for thing in samples.variants(binding):
            # Python takes True for 1; repr tells them apart.
            self.assertIs(is_binding(*self.arguments, thing), repr(thing) == repr(binding))

    def test_is_binding_when_the_statement_is_refused(self):
        for thing in [None, False, (), binding_of(*self.arguments)]:
            self.assertIs(is_binding(self.catalog, read("select x from nothing"), ("main",), "boss", thing), False)
            self.assertIs(is_binding(*self.arguments[:3], "kim", thing), False)

    def test_by_name_and_unchanged(self):
        before = copy.deepcopy(self.arguments[1:])
        binding = binding_of(role="boss", path=("main",), statement=self.statement, catalog=self.catalog)
        self.assertIs(is_binding(thing=binding, role="boss", path=("main",), statement=self.statement, catalog=self.catalog), True)
        self.assertIsNone(refusal(role="boss", path=("main",), statement=self.statement, catalog=self.catalog))
        self.assertEqual(self.arguments[1:], before)

    def test_the_forms_of_what_is_returned(self):
        binding = binding_of(*self.arguments)
        self.assertEqual([type(part) for part in binding], [bool, tuple, tuple, tuple])
        self.assertIs(binding[0], True)
        why = refusal(self.catalog, read("select x from v where k in ('a')"), ("main",), "boss")
        self.assertEqual(why, ("OnCall", (), "condition", 0))
        self.assertEqual([type(part) for part in why], [str, tuple, str, int])


class WorldsTest(unittest.TestCase):
    def test_any_statements_as_they_are_bound_slowly(self):
        seen = {}
        for seed in range(150):
            source = random.Random(seed)
            catalog = worlds.make_catalog(source)
            for _ in range(40):
                statement, path, role = worlds.make_any(source, catalog)
                binding, why = slow.bound_or_refusal(catalog, statement, path, role)
                self.assertEqual(refusal(catalog, statement, path, role), why, (seed, statement, path, role))
                if why is None:
                    self.assertEqual(binding_of(catalog, statement, path, role), binding)
                    self.assertIs(is_binding(catalog, statement, path, role, binding), True)
                    seen["views", "view" in [part[0] for part in binding[2]]] = True
                else:
                    self.assertEqual(raised(binding_of, catalog, statement, path, role), why[0])
                    seen[why[0], why[2]] = True
                    seen["views", len(why[1])] = True
        words = ["Unknown", "NoRight", "Ring"]
        wanted = [(word, "source") for word in words] + [(word, "told") for word in ("Unknown", "Ambiguous")]
        wanted += [(word, "condition") for word in ("Unknown", "Ambiguous", "OnCall", "Mismatch")]
        wanted += [("views", many) for many in (True, False, 2, 3)]
        self.assertEqual([word for word in wanted if word not in seen], [])
