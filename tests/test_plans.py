"""[15] and [27]: plans of bindings, and the form of plans."""

import copy
import itertools
import random
import unittest

from boundonce.bindings import binding_of
from boundonce.deeds import after_deed
from boundonce.errors import BoundError
from boundonce.plans import is_plan, plan_of
from boundonce.texts import read
from tests import samples, slow, worlds
from tests.built import catalog_of, function, table, view


def small(*deeds):
    """Return a catalog with t (0: x 1, y 2, z 3), u (4: x 5, k 6) and functions f (7) and g (8)."""
    return catalog_of(*table("main.t", "x, y, z", "boss"), *table("main.u", "x, k", "boss"), *function("main.f", "text"),
                      *function("main.g", "text text"), *deeds)


class PlanOfTest(unittest.TestCase):
    def plans(self, catalog, text, plan, role="boss"):
        binding = binding_of(catalog, read(text), ("main",), role)
        before = copy.deepcopy(binding)
        self.assertEqual(plan_of(catalog, binding), plan)
        self.assertEqual(binding, before)
        self.assertIs(is_plan(catalog, plan), True)

    def test_rows_by_the_order_of_sources(self):
        self.plans(small(), "select a.x from t a", (False, (0,), ((0, ((1, 0),)),), (None,)))
        self.plans(small(), "select b.x from u a, t b, u", (False, (0,), ((4, ()), (0, ((1, 0),)), (4, ())), (None,)))
        self.plans(small(), "select distinct x from t", (True, (0,), ((0, ((1, 0),)),), (None,)))

    def test_only_columns_that_matter_are_named(self):
        self.plans(small(), "select 'a' as x from t", (False, ("a",), ((0, ()),), ()))
        self.plans(small(), "select 'a' as x from t where x = x", (False, ("a",), ((0, ()),), ()))
        self.plans(small(), "select y as x from t where x = z", (False, (0,), ((0, ((1, 1), (2, 0), (3, 1))),), (None, None)))
        self.plans(small(), "select y from t where x in ('a', 'b')", (False, (0,), ((0, ((1, 1), (2, 0))),), (None, ("a", "b"))))
        self.plans(small(), "select y from t where x in ('a')", (False, (0,), ((0, ((1, "a"), (2, 0))),), (None,)))

    def test_classes_also_through_others(self):
        self.plans(small(), "select t.x from t, u where t.x = k and u.x = y and y = t.x",
                   (False, (0,), ((0, ((1, 0), (2, 0))), (4, ((5, 0), (6, 0)))), (None,)))
        self.plans(small(), "select 'a' as k from t, u where u.x = y and k = z and z = t.x",
                   (False, ("a",), ((0, ((1, 0), (2, 1), (3, 0))), (4, ((5, 1), (6, 0)))), (None, None)))

    def test_numbers_as_they_occur_in_told_then_in_rows(self):
        self.plans(small(), "select u.k, t.z, t.x from t, u where y = u.x",
                   (False, (0, 1, 2), ((0, ((1, 2), (2, 3), (3, 1))), (4, ((5, 3), (6, 0)))), (None,) * 4))
        self.plans(small(), "select g(t.z, u.k) as a, f(y) as b, t.z from t, u where t.x in ('a', 'b')",
                   (False, (("call", 8, (0, 1)), ("call", 7, (2,)), 0), ((0, ((1, 3), (2, 2), (3, 0))), (4, ((6, 1),))),
                    (None, None, None, ("a", "b"))))
        self.plans(small(), "select k, k as l, k as m, 'b' as n from t, u where y = t.x and z = z",
                   (False, (0, 0, 0, "b"), ((0, ((1, 1), (2, 1))), (4, ((6, 0),))), (None, None)))

    def test_lists_are_what_all_name(self):
        self.plans(small(), "select k from t, u where t.x in ('a', 'b', 'c') and y = t.x and y in ('b', 'c', 'd')",
                   (False, (0,), ((0, ((1, 1), (2, 1))), (4, ((6, 0),))), (None, ("b", "c"))))
        self.plans(small(), "select x from t where x in ('a', 'b') and x in ('c', 'd')", (False, (0,), ((0, ((1, 0),)),), ((),)))
        self.plans(small(), "select y from t where x in ('a') and x in ('b')", (False, (0,), ((0, ((1, 1), (2, 0))),), (None, ())))
        self.plans(small(), "select x from t where x in ('a', 'b') and x in ('b', 'c') and x = y",
                   (False, ("b",), ((0, ((1, "b"), (2, "b"))),), ()))

    def test_classes_with_one_value_are_the_value(self):
        self.plans(small(), "select x, y, f(z) as k from t where x in ('a') and y in ('a') and z in ('select')",
                   (False, ("a", "a", ("call", 7, ("select",))), ((0, ((1, "a"), (2, "a"), (3, "select"))),), ()))
        self.plans(small(), "select g('a', t.x) as l, k from t, u where t.x in ('a') and k in ('b', 'c')",
                   (False, (("call", 8, ("a", "a")), 0), ((0, ((1, "a"),)), (4, ((6, 0),))), (("b", "c"),)))

    def test_rules(self):
        catalog = small(("rule", "boss", "main", "t", "y", ("a", "b")), ("rule", "boss", "main", "u", "x", ("b",)))
        self.plans(catalog, "select t.x, k from t, u", (False, (0, 1), ((0, ((1, 0), (2, 2))), (4, ((5, "b"), (6, 1)))), (None, None, ("a", "b"))))
        self.plans(catalog, "select 'c' as x from t, u where t.y = u.x", (False, ("c",), ((0, ((2, "b"),)), (4, ((5, "b"),))), ()))
        self.plans(catalog, "select y from t where y in ('c', 'd')", (False, (0,), ((0, ((2, 0),)),), ((),)))

    def test_opened_views(self):
        catalog = small(*view("main.v", "select t.x as a, f(y) as b, k as c from t, u where t.x = u.x and z in ('a', 'b')", "main", "boss"),
                        ("rule", "boss", "main", "u", "k", ("p", "q")), *view("main.w", "select c, b, v.a, x from u, v", "main", "boss"))
        self.plans(catalog, "select a from v", (False, (0,), ((0, ((1, 0), (3, 1))), (4, ((5, 0), (6, 2)))), (None, ("a", "b"), ("p", "q"))))
        self.plans(catalog, "select distinct f(b) as x, 'a' as y from t, v",
                   (True, (("call", 7, (("call", 7, (0,)),)), "a"), ((0, ()), (0, ((1, 1), (2, 0), (3, 2))), (4, ((5, 1), (6, 3)))),
                    (None, None, ("a", "b"), ("p", "q"))))
        self.plans(catalog, "select w.* from w where w.a = w.x and c in ('p')",
                   (False, ("p", ("call", 7, (0,)), 1, 1), ((4, ((5, 1), (6, 2))), (0, ((1, 1), (2, 0), (3, 3))), (4, ((5, 1), (6, "p")))),
                    (None, None, ("p", "q"), ("a", "b"))))

    def test_what_only_a_view_tells_is_not_named(self):
        catalog = small(*view("main.v", "select x as a, y as b, f(z) as c from t", "main", "boss"))
        self.plans(catalog, "select a from v", (False, (0,), ((0, ((1, 0),)),), (None,)))
        self.plans(catalog, "select 'a' as k from v, v w where v.a = w.b",
                   (False, ("a",), ((0, ((1, 0),)), (0, ((2, 0),))), (None,)))

    def test_without_labels_and_names(self):
        catalog = small()
        one = binding_of(catalog, read("select a.x as p, main.f(y) as q from main.t a where y = z"), (), "boss")
        two = binding_of(catalog, read("select x, f(y) as y from t where y = z"), ("main",), "boss")
        self.assertNotEqual(one, two)
        self.assertEqual(plan_of(catalog, one), plan_of(catalog, two))

    def test_by_name(self):
        catalog = small()
        binding = binding_of(catalog, read("select x from t"), ("main",), "boss")
        self.assertIs(is_plan(thing=plan_of(binding=binding, catalog=catalog), catalog=catalog), True)

    def test_plans_answer_what_bindings_say(self):
        rows = {}
        for seed in range(120):
            source = random.Random(seed)
            catalog = worlds.make_catalog(source)
            for _ in range(30):
                try:
                    binding = binding_of(catalog, *worlds.make_any(source, catalog))
                except BoundError:
                    continue
                plan = plan_of(catalog, binding)
                many = len(plan[2])
                rows[many] = rows.get(many, 0) + 1
                self.assertIs(is_plan(catalog, plan), many <= 4)
                if many <= 4:
                    data = worlds.make_data(source, catalog, [])
                    for flat in (False, True):
                        told = slow.counted(slow.said(catalog, binding, data, flat))
                        self.assertEqual(slow.answers(catalog, plan, data, flat), {row: 1 for row in told} if plan[0] else told)
        self.assertTrue(all(rows.get(many, 0) > 5 for many in (1, 2, 3, 4)), rows)


class IsPlanTest(unittest.TestCase):
    def setUp(self):
        self.catalog = small(("function", "main", "h", ("num",), "num"), ("column", "main", "u", "m", "num"),
                             ("view", "main", "v", read("select x from t"), ("main",)))

    def check(self, *plans, right=True):
        for plan in plans:
            self.assertIs(is_plan(self.catalog, plan), right, plan)

    def wrong(self, *plans):
        self.check(*plans, right=False)

    def test_plans(self):
        self.check((False, ("a",), ((0, ()),), ()), (True, (0,), ((0, ((1, 0),)),), (None,)))
        self.check((False, (0, "in", 0, ("call", 9, (1,))), ((4, ((5, 1), (6, 0))), (0, ((1, 0), (2, 2)))), (None, ("a", "b"), ())))
        self.check((False, ("a",) * 40, ((0, ()),), ()))

    def test_one_to_four_rows(self):
        for size in range(7):
            self.check((False, ("a",), ((0, ()),) * size, ()), right=1 <= size <= 4)

    def test_at_least_one_told_thing(self):
        self.wrong((False, (), ((0, ()),), ()), (False, (), ((0, ((1, "a"),)),), ()))

    def test_rows_of_tables_of_the_catalog(self):
        for number in [-1, 1, 2, 7, 10, 11, 12, 99, None, False, True, "a", (0,), [0]]:
            self.wrong((False, ("a",), ((number, ()),), ()))
        self.check((False, ("a",), ((4, ()),), ()))
        dropped = after_deed(self.catalog, ("drop", "main", "t"))
        self.assertIs(is_plan(dropped, (False, ("a",), ((0, ()),), ())), False)
        self.assertIs(is_plan(dropped, (False, ("a",), ((4, ()),), ())), True)

    def test_columns_of_the_table_ascending(self):
        self.check((False, (0, 1), ((0, ((1, 0), (2, 1))),), (None, None)))
        self.wrong((False, (1, 0), ((0, ((2, 1), (1, 0))),), (None, None)), (False, (0, 1), ((0, ((2, 0), (1, 1))),), (None, None)))
        self.wrong((False, (0,), ((0, ((1, 0), (1, 0))),), (None,)), (False, ("a",), ((0, ((1, "a"), (1, "a"))),), ()))
        for column in [0, 4, 5, 7, 99, -1, True, None, "x", (1,)]:
            self.wrong((False, (0,), ((0, ((column, 0),)),), (None,)), (False, ("a",), ((0, ((column, "a"),)),), ()))

    def test_columns_that_a_plan_names(self):
        # A class that is told, has a list, or has another column; otherwise its column is left out.
        self.check((False, ("a",), ((0, ((1, 0), (2, 0))),), (None,)), (False, ("a",), ((0, ((1, 0),)),), (("a", "b"),)))
        self.check((False, ("a",), ((0, ((1, 0),)), (0, ((2, 0),))), (None,)), (False, (("call", 7, (0,)),), ((0, ((1, 0),)),), (None,)))
        self.check((False, ("a",), ((0, ((1, "b"),)),), ()), (False, ("a",), ((0, ((1, 0),)),), ((),)))
        self.wrong((False, ("a",), ((0, ((1, 0),)),), (None,)), (False, (0,), ((0, ((1, 0), (2, 1))),), (None, None)))

    def test_classes_are_numbered_as_told(self):
        self.check((False, (0, 1), ((0, ((1, 1), (2, 0))),), (None, None)), (False, (0,), ((0, ((1, 1), (2, 0), (3, 1))),), (None, None)))
        self.wrong((False, (1, 0), ((0, ((1, 1), (2, 0))),), (None, None)), (False, (1,), ((0, ((1, 0), (2, 1), (3, 0))),), (None, None)))
        self.wrong((False, (1,), ((0, ((1, 1),)),), (None, None)), (False, (1,), ((0, ((1, 1),)),), (None,)), (False, (-1,), ((0, ((1, -1),)),), (None,)))
        self.check((False, (("call", 8, (0, 1)), 1), ((0, ((1, 1), (2, 0))),), (None, None)))
        self.wrong((False, (("call", 8, (1, 0)), 1), ((0, ((1, 1), (2, 0))),), (None, None)))
        self.wrong((False, ("a",), ((0, ((1, 1), (2, 1))), (0, ((1, 0), (2, 0)))), (None, None)))

    def test_each_class_stands_in_a_row(self):
        self.wrong((False, (0,), ((0, ()),), (None,)), (False, (0, 1), ((0, ((1, 0),)),), (None, None)), (False, ("a",), ((0, ()),), (None,)))
        self.wrong((False, ("a",), ((0, ()),), (("a", "b"),)), (False, (("call", 7, (0,)),), ((0, ()),), (None,)), (False, (0,), ((0, ()),), ()))

    def test_lists(self):
        def plan(values):
            return (False, (0,), ((0, ((1, 0),)),), (values,))
        letters = tuple("abcdefghi")
        for size in range(10):
            self.check(plan(letters[:size]), right=size != 1 and size <= 8)
        self.check(plan(None))
        for values in [("b", "a"), ("a", "a"), ["a", "b"], ("a", None), ("a", "B"), ("a", ""), ("a", "abcdefghi"), (0, 1), "ab", 0, False, {}, ("a", ("b",))]:
            self.wrong(plan(values))
        for lists in [(), (None, None), [None], None, ((), ())]:
            self.wrong((False, (0,), ((0, ((1, 0),)),), lists))

    def test_calls(self):
        def plan(*terms):
            return (False, terms, ((0, ((1, 0),)),), (None,))
        self.check(plan(0, ("call", 7, (0,))), plan(0, ("call", 8, (0, 0))), plan(0, ("call", 9, ("a",))), plan(("call", 8, ("a", ("call", 7, (0,))))))
        for call in [("call", 7, ()), ("call", 7, (0, 0)), ("call", 8, (0,)), ("call", 8, (0, 0, 0)), ("call", 0, (0,)), ("call", 1, (0,)), ("call", 10, (0,)),
                     ("call", 11, (0,)), ("call", 99, (0,)), ("call", -1, (0,)), ("call", None, (0,)), ("call", True, (0,)), ("call", 7, [0]), ["call", 7, (0,)],
                     ("call", 7, (False,)), ("call", 7, (None,)), ("call", 7, (1,)), ("call", 7, ("A",)), ("call", 7), ("call", 7, (0,), 0),
                     ("column", 7, (0,)), ("call", "f", (0,)), ("call", 7, ((),)), ("call", 7, (("call", 7, ()),)), (),
                     ("call", 0, (0, 0, 0)), ("call", 1, (0, 0, 0, 0)), ("call", 11, (0, 0, 0, 0))]:
            self.wrong(plan(0, call), plan(0, ("call", 7, (call,))))

    def test_values(self):
        for value in ["in", "a", "abcdefgh"]:
            self.check((False, (value,), ((0, ((1, value),)),), ()))
        for value in ["", "A", "abcdefghi", "a b", "1", None, False, ("a",), ["a"], 1.5]:
            self.wrong((False, (value,), ((0, ()),), ()), (False, ("a",), ((0, ((1, value),)),), ()))

    def test_one_type_for_the_columns_of_a_class(self):
        # u.m is a num, all other columns are texts.
        self.check((False, (0,), ((0, ((1, 0),)), (4, ((6, 0),))), (None,)), (False, (0,), ((4, ((10, 0),)), (4, ((10, 0),))), (None,)))
        self.wrong((False, (0,), ((0, ((1, 0),)), (4, ((10, 0),))), (None,)), (False, (0,), ((4, ((6, 0), (10, 0))),), (("a", "b"),)))
        self.check((False, ("a",), ((0, ((1, "a"),)), (4, ((10, "a"),))), ()))

    def test_true_and_false(self):
        for distinct in [0, 1, None, "a", (), "False"]:
            self.wrong((distinct, ("a",), ((0, ()),), ()))
        self.wrong((False, (False,), ((0, ((1, False),)),), (None,)), (False, (0,), ((0, ((1, False),)),), (None,)), (False, (False,), ((0, ((1, 0),)),), (None,)))
        self.wrong((False, (0, True), ((0, ((1, 0), (2, 1))),), (None, None)), (False, (0,), ((0, ((True, 0),)),), (None,)))

    def test_any_objects_and_parts_exchanged(self):
        for thing in samples.any_objects() + samples.very_large_objects():
            self.wrong(thing)
            for plan in [(thing, (0,), ((0, ((1, 0),)),), (None,)), (False, thing, ((0, ((1, 0),)),), (None,)), (False, (0,), ((0, thing),), (None,)),
                         (False, (0,), (thing,), (None,)), (False, (0,), ((0, ((1, 0),)),), thing), (False, (0,), ((0, (thing,)),), (None,)),
                         (False, (0, ("call", 7, thing)), ((0, ((1, 0),)),), (None,)), (False, (0, ("call", thing, (0,))), ((0, ((1, 0),)),), (None,))]:
                if thing not in (True, False) and thing != 7 and plan not in GOOD:
                    self.wrong(plan)
        seen = {True: 0, False: 0}
        plan = (False, (0, ("call", 8, (1, "a"))), ((0, ((1, 0), (2, 1))), (4, ((5, 1), (6, 2)))), (None, None, ("a", "b")))
        for thing in samples.variants(plan):
            right = slow.is_plan(self.catalog, thing)
            seen[right] += 1
            self.check(thing, right=right)
        self.assertTrue(seen[True] > 5 and seen[False] > 500, seen)

    def test_deep_and_large_calls(self):
        call = 0
        for _ in range(20):
            call = ("call", 7, (call,))
        self.check((False, (call,), ((0, ((1, 0),)),), (None,)))
        for _ in range(5000):
            call = ("call", 7, (call, call))
        self.wrong((False, (call,), ((0, ((1, 0),)),), (None,)))

    def test_all_small_plans(self):
        many = 0
        terms = [0, 1, 2, "a", True, None]
        for one, two, three, told in itertools.product(terms, terms, terms, terms):
            for lists in [(), (None,), (None, None), (None, ("a", "b")), ((), None, None)]:
                plan = (False, (told,), ((0, ((1, one), (2, two))), (0, ((1, three),))), lists)
                right = slow.is_plan(self.catalog, plan)
                many += right
                self.check(plan, right=right)
        self.assertGreater(many, 20)


GOOD = [(False, (0,), ((0, ((1, 0),)),), (("a", "b"),)), (False, (0,), ((0, ((1, 0),)),), ((),)), (False, (0,), ((0, ((1, 0),)),), (None,)),
        (False, (0, ("call", 7, (0,))), ((0, ((1, 0),)),), (None,)), (False, (0, ("call", 7, ("a",))), ((0, ((1, 0),)),), (None,))]
