"""[36]: parts of plans, and plans without what is needless."""

import copy
import random
import unittest

from boundonce.leaning import lean_plan, needless_parts, parts_of, without_part
from boundonce.likeness import alike
from boundonce.plans import is_plan
from tests import samples, slow, worlds
from tests.built import raised
from tests.test_cases import key, ref, with_facts
from tests.test_likeness import NONE2, NONE3, T, U, V, distinct, plain

CALL = ("call", 10, (0,))


class PartsTest(unittest.TestCase):
    def test_the_only_row_is_no_part(self):
        self.assertEqual(parts_of(plain(("a",), (V, ()))), [])
        self.assertEqual(parts_of(plain((0,), (V, ((9, 0),)), lists=(None,))), [])
        self.assertEqual(parts_of(distinct(plain(("a",), (V, ())))), [("distinct",)])

    def test_rows_whose_told_classes_stand_in_others(self):
        rows = ((T, ((1, 0), (2, 1))), (T, ((1, 1),)), (V, ()))
        self.assertEqual(parts_of(plain((0,), *rows, lists=NONE2)), [("row", 1), ("row", 2)])
        self.assertEqual(parts_of(plain((CALL,), *rows, lists=NONE2)), [("row", 1), ("row", 2)])
        self.assertEqual(parts_of(slow.renumbered(plain((1,), *rows, lists=NONE2))), [("row", 0), ("row", 1), ("row", 2)])
        self.assertEqual(parts_of(plain(("a",), *rows[::-1][:1] * 4)), [("row", index) for index in range(4)])
        self.assertEqual(parts_of(plain((0, 1), (T, ((1, 0),)), (V, ((9, 1),)), lists=NONE2)), [])
        self.assertEqual(parts_of(plain((0, "a"), (T, ((1, 0), (2, "a"))), (V, ((9, "a"),)), lists=(None,))), [("row", 1)])
        self.assertEqual(parts_of(plain((0,), (T, ((1, 0),)), (V, ((9, 0),)), lists=(None,))), [("row", 0), ("row", 1)])

    def test_lists_then_distinct(self):
        one = plain((0,), (T, ((1, 0), (2, 1), (3, 2))), (V, ((9, 0),)), lists=(("a", "b"), (), None))
        self.assertEqual(parts_of(slow.renumbered(one)), [("row", 0), ("row", 1), ("list", 0), ("list", 1)])
        self.assertEqual(parts_of(distinct(one)), [("row", 0), ("row", 1), ("list", 0), ("list", 1), ("distinct",)])

    def test_new_each_time(self):
        one = distinct(plain((0,), (V, ((9, 0),)), (V, ()), lists=(("a", "b"),)))
        parts_of(one).clear()
        self.assertEqual(parts_of(plan=one), [("row", 1), ("list", 0), ("distinct",)])


class WithoutPartTest(unittest.TestCase):
    def check(self, one, part, two):
        before = copy.deepcopy((one, part))
        self.assertEqual(without_part(one, part), two)
        self.assertEqual((one, part), before)
        self.assertIs(is_plan(with_facts(), two), True)

    def test_distinct(self):
        one = plain((0,), (V, ((9, 0),)), lists=(("a", "b"),))
        self.check(distinct(one), ("distinct",), one)

    def test_a_row(self):
        self.check(plain((0,), (V, ((9, 0),)), (V, ()), lists=(None,)), ("row", 1), plain((0,), (V, ((9, 0),)), lists=(None,)))
        self.check(distinct(plain((0,), (V, ()), (V, ((9, 0),)), lists=(None,))), ("row", 0), distinct(plain((0,), (V, ((9, 0),)), lists=(None,))))
        self.check(plain((0,), (T, ((1, 0), (2, "a"))), (V, ((9, "a"),)), lists=(None,)), ("row", 1), plain((0,), (T, ((1, 0), (2, "a"))), lists=(None,)))

    def test_columns_that_have_no_other_any_more(self):
        one = plain((0,), (T, ((1, 0), (2, 1))), (V, ((9, 1),)), lists=NONE2)
        self.check(one, ("row", 1), plain((0,), (T, ((1, 0),)), lists=(None,)))
        one = plain((0,), (T, ((1, 0), (2, 1))), (V, ((9, 1),)), lists=(None, ("a", "b")))
        self.check(one, ("row", 1), plain((0,), (T, ((1, 0), (2, 1))), lists=(None, ("a", "b"))))
        one = plain((0,), (T, ((1, 0), (2, 1), (3, 1))), (V, ((9, 1),)), lists=NONE2)
        self.check(one, ("row", 1), plain((0,), (T, ((1, 0), (2, 1), (3, 1))), lists=NONE2))

    def test_numbers_of_classes_and_lists_that_stand_nowhere(self):
        one = plain(("c",), (V, ((9, 0),)), (T, ((1, 1), (2, 2))), (U, ((5, 2),)), lists=(("a", "b"), ("b", "c"), None))
        self.check(one, ("row", 0), plain(("c",), (T, ((1, 0), (2, 1))), (U, ((5, 1),)), lists=(("b", "c"), None)))
        self.check(one, ("row", 1), plain(("c",), (V, ((9, 0),)), (U, ()), lists=(("a", "b"),)))
        self.check(one, ("row", 2), plain(("c",), (V, ((9, 0),)), (T, ((1, 1),)), lists=(("a", "b"), ("b", "c"))))
        one = plain((CALL,), (T, ((1, 1), (2, 0))), (V, ((9, 0),)), lists=(None, ()))
        self.check(one, ("row", 0), plain((CALL,), (V, ((9, 0),)), lists=(None,)))

    def test_a_list(self):
        one = plain((0,), (T, ((1, 0), (2, 1), (3, 2))), (V, ((9, 2),)), lists=(("a", "b"), ("a", "b"), ()))
        self.check(one, ("list", 0), plain((0,), (T, ((1, 0), (2, 1), (3, 2))), (V, ((9, 2),)), lists=(None, ("a", "b"), ())))
        self.check(one, ("list", 1), plain((0,), (T, ((1, 0), (3, 1))), (V, ((9, 1),)), lists=(("a", "b"), ())))
        self.check(one, ("list", 2), plain((0,), (T, ((1, 0), (2, 1), (3, 2))), (V, ((9, 2),)), lists=(("a", "b"), ("a", "b"), None)))

    def test_no_parts(self):
        one = distinct(plain((0,), (T, ((1, 0), (2, 1))), (V, ((9, 1),)), lists=(None, ("a", "b"))))
        wrong = [("row", 0), ("row", 2), ("row", -1), ("list", 0), ("list", 2), ("list", -1), ("row",), ("row", 1, 1), ["row", 1], ("row", True), ("list", True),
                 ("row", "1"), ("distinct", 0), "distinct", ["distinct"], (), None, ("row", None), ("row", (1,)), 0, ("list", 1.0)]
        for thing in wrong + samples.any_objects() + samples.very_large_objects():
            self.assertEqual(raised(without_part, one, thing), "InvalidPart", samples.shown(thing))
        self.assertEqual(raised(without_part, plain(("a",), (V, ())), ("distinct",)), "InvalidPart")
        self.assertEqual(raised(without_part, plain(("a",), (V, ())), ("row", 0)), "InvalidPart")
        for part in parts_of(one):
            self.assertIsNone(raised(without_part, one, part))
            for thing in samples.variants(part):
                self.assertEqual(raised(without_part, one, thing), None if repr(thing) in [repr(other) for other in parts_of(one)] else "InvalidPart")
        self.assertEqual(without_part(part=("distinct",), plan=one), (False,) + one[1:])


class LeanTest(unittest.TestCase):
    def setUp(self):
        self.catalog = with_facts(("u", key("y")), ("u", key("x")), ("t", ref("x", "u", "y")), ("v", ("in", "x", ("a", "b"))))
        # The row of u is forced by the one of t, and the list by the fact of v.
        self.plan = plain((0,), (T, ((1, 0),)), (U, ((6, 0),)), (V, ((9, 1),)), lists=(None, ("a", "b", "c")))

    def test_needless_parts(self):
        self.assertEqual(needless_parts(self.catalog, self.plan), [("row", 1), ("list", 1)])
        self.assertEqual(needless_parts(self.catalog, self.plan, []), [])
        self.assertEqual(needless_parts(self.catalog, self.plan, [(V, ("in", 9, ("a", "b")))]), [("list", 1)])
        self.assertEqual(needless_parts(self.catalog, self.plan, [(T, ("ref", (1,), U, (6,))), (U, ("key", (6,)))]), [("row", 1)])
        # A distinct plan asks only whether there is a row of v.
        self.assertEqual(needless_parts(self.catalog, distinct(self.plan)), [("row", 1), ("list", 1)])
        self.assertEqual(needless_parts(self.catalog, distinct(plain((0,), (U, ((6, 0),)), lists=(None,)))), [("distinct",)])
        self.assertEqual(needless_parts(by=None, plan=plain((0,), (U, ((6, 0),)), lists=(None,)), catalog=self.catalog), [])

    def test_lean_plan(self):
        lean = plain((0,), (T, ((1, 0),)), (V, ()), lists=(None,))
        self.assertEqual(lean_plan(self.catalog, self.plan), lean)
        self.assertEqual(lean_plan(self.catalog, lean), lean)
        self.assertEqual(lean_plan(with_facts(), self.plan), self.plan)
        self.assertEqual(lean_plan(plan=self.plan, catalog=with_facts()), self.plan)

    def test_the_first_needless_part_goes_first(self):
        # Either row may go, but not both; the first one does.
        one = distinct(plain((0,), (V, ((9, 0),)), (V, ((9, 0),)), (V, ()), lists=(None,)))
        self.assertEqual(lean_plan(with_facts(), one), distinct(plain((0,), (V, ((9, 0),)), lists=(None,))))
        one = distinct(plain(("c",), (T, ((1, "a"),)), (T, ()), (T, ((1, "a"), (2, "b")))))
        self.assertEqual(lean_plan(with_facts(), one), distinct(plain(("c",), (T, ((1, "a"), (2, "b"))))))
        catalog = with_facts(("t", key("x")), ("u", key("x")), ("t", ref("x", "u", "x")), ("u", key("y")))
        one = plain((0,), (T, ((1, 0),)), (T, ((1, 0),)), (U, ((5, 0),)), lists=(None,))
        self.assertEqual(needless_parts(catalog, one), [("row", 0), ("row", 1), ("row", 2)])
        self.assertEqual(lean_plan(catalog, one), plain((0,), (T, ((1, 0),)), lists=(None,)))

    def test_distinct_goes_last(self):
        one = distinct(plain((0,), (U, ((6, 0), (7, 1))), (U, ((6, 0), (5, 2))), lists=(None, ("a", "b"), ("a", "b"))))
        self.assertEqual(lean_plan(self.catalog, one), without_part(one, ("distinct",)))
        one = distinct(plain((0,), (U, ((6, 0),)), (T, ()), lists=(None,)))
        self.assertEqual(lean_plan(self.catalog, one), one)

    def test_worlds(self):
        seen = {}
        for seed in range(120):
            source = random.Random(seed)
            catalog = worlds.make_table_catalog(source)
            one = worlds.make_plan(source, catalog)
            by = source.choice([None, None, worlds.closed_facts(source, catalog)])
            needless = [part for part in parts_of(one) if alike(catalog, one, without_part(one, part), by)]
            self.assertEqual(needless_parts(catalog, one, by), needless)
            lean = one
            while needless_parts(catalog, lean):
                lean = without_part(lean, needless_parts(catalog, lean)[0])
            self.assertEqual(lean_plan(catalog, one), lean)
            self.assertTrue(is_plan(catalog, lean) and alike(catalog, one, lean))
            for part in parts_of(one):
                self.assertTrue(is_plan(catalog, without_part(one, part)))
            for part in needless:
                seen[part[0]] = seen.get(part[0], 0) + 1
        self.assertEqual(set(seen), {"row", "list", "distinct"})
