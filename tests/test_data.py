"""[16], [17] and [31]: data of a catalog, and the answers of plans on them."""

import copy
import inspect
import random
import unittest

from boundonce.bindings import binding_of
from boundonce.cases import cases_of
from boundonce.catalogs import Catalog
from boundonce.data import answers_to, is_data
from boundonce.deeds import after_deed, after_deeds
from boundonce.leaning import lean_plan
from boundonce.likeness import alike, tells_once
from boundonce.plans import plan_of
from boundonce.texts import read
from tests import checking, samples, slow, worlds
from tests.built import catalog_of, raised, table, view
from tests.test_cases import key, ref, with_facts
from tests.test_likeness import NONE2, NONE3, T, U, V, distinct, plain

F, G = 10, 11


def empty(**rows):
    """Return data of the catalogs of with_facts, with the rows of some tables as strings "abc abd"."""
    found = {T: [], U: [], V: []}
    for name, text in rows.items():
        found[{"t": T, "u": U, "v": V}[name]] = [tuple(word) for word in text.split()]
    return found


class IsDataTest(unittest.TestCase):
    def check(self, catalog, thing, right):
        self.assertIs(is_data(catalog, thing), right, samples.shown(thing))

    def test_rows_of_all_tables(self):
        for data in [empty(), empty(t="abc"), empty(t="abc abd bbb", u="xyz", v="a b c"), {V: [], U: [], T: []}]:
            self.check(with_facts(), data, True)
        self.check(with_facts(), {T: [("ulm", "select", "abcdefgh")], U: [], V: [("in",)]}, True)
        self.check(Catalog(("text",)), {}, True)
        self.check(with_facts(), {}, False)

    def test_tables_left_out_and_tables_too_many(self):
        for number in (T, U, V):
            data = empty()
            del data[number]
            self.check(with_facts(), data, False)
        for number in [1, 3, F, 12, -1, "0", None, (), True, False]:
            if number is not False:
                self.check(with_facts(), {**empty(), number: []}, False)
        self.check(Catalog(("text",)), {0: []}, False)

    def test_numbers_that_are_true_or_false(self):
        # A table with the number 0, and one with the number 1.
        catalog = catalog_of(*table("main.t", "x"))
        for number, right in [(0, True), (False, False), (True, False), (1, False), ("0", False), ((0,), False)]:
            self.check(catalog, {number: []}, right)
            self.check(catalog, {number: [("a",)]}, right)
        catalog = catalog_of(("function", "main", "f", ("text",), "text"), *table("main.t", "x"))
        for number, right in [(1, True), (True, False), (0, False), (False, False)]:
            self.check(catalog, {number: []}, right)
        catalog = after_deeds(catalog, [("drop function", "main", "f", ("text",))])
        self.check(catalog, {1: [("a",)]}, True)
        self.check(catalog, {True: [("a",)]}, False)

    def test_lists_of_rows(self):
        for rows in [(), (("a",),), None, "", "a", {}, {("a",): 1}, 0, True]:
            self.check(with_facts(), {**empty(), V: rows}, False)
        for row in [["a"], (), ("a", "b"), ("a", "b", "c"), "a", None, 0, {"a": 1}, (("a",),), []]:
            self.check(with_facts(), {**empty(), V: [row]}, False)
            self.check(with_facts(), {**empty(), V: [("a",), row]}, False)
        for row in [("a", "b"), ("a", "b", "c", "d"), ["a", "b", "c"], ("a", ("b", "c")), "abc"]:
            self.check(with_facts(), {**empty(), T: [row]}, False)

    def test_values(self):
        for value in samples.any_objects():
            data = {**empty(), V: [(value,)]}
            self.check(with_facts(), data, checking.is_value(value))
        for value in [None, 0, True, "", "A", "abcdefghi", "a b", "a1", ["a"], ("a",), "\n"]:
            for at in range(3):
                row = ("a", "b", "c")
                self.check(with_facts(), {**empty(), T: [row, row[:at] + (value,) + row[at + 1:]]}, False)

    def test_keys(self):
        self.check(with_facts(("t", key("x"))), empty(t="abc bbc cbc"), True)
        self.check(with_facts(("t", key("x"))), empty(t="abc bbc acb"), False)
        self.check(with_facts(("t", key("x"))), empty(t="abc abc"), False)
        self.check(with_facts(("t", key("z x"))), empty(t="abc abd bbc"), True)
        self.check(with_facts(("t", key("z x"))), empty(t="abc abd aac"), False)
        self.check(with_facts(("t", key("x y z"))), empty(t="abc abd acc", u="abc abc"), True)
        self.check(with_facts(("t", key("x y z"))), empty(t="abc abd abc"), False)
        both = with_facts(("t", key("x")), ("t", key("y")))
        self.check(both, empty(t="abc bac"), True)
        self.check(both, empty(t="abc bbc"), False)
        self.check(both, empty(t="abc acc"), False)

    def test_rows_that_stand_several_times(self):
        self.check(with_facts(("u", key("x"))), empty(t="abc abc abc", v="a a", u="abc"), True)
        self.check(with_facts(("u", key("x"))), empty(u="abc abc"), False)

    def test_lists(self):
        catalog = with_facts(("t", ("in", "y", ("a", "b"))))
        for rows, right in [("", True), ("cac cbc", True), ("acb", False), ("cac acb", False), ("aaa bbb", True)]:
            self.check(catalog, empty(t=rows, u="ccc"), right)
        catalog = with_facts(("t", ("in", "y", ("a", "b"))), ("t", ("in", "y", ("b", "c"))), ("t", ("in", "x", ("d",))))
        for rows, right in [("dba", True), ("daa", False), ("dca", False), ("aba", False)]:
            self.check(catalog, empty(t=rows), right)

    def test_references(self):
        catalog = with_facts(("u", key("y")), ("t", ref("x", "u", "y")))
        for t, u, right in [("", "", True), ("", "abc", True), ("bcc", "abc", True), ("bcc bdd", "abc acc", True), ("acc", "abc", False), ("bcc acc", "abc", False), ("bcc", "", False), ("ccc", "abc", False)]:
            self.check(catalog, empty(t=t, u=u), right)
        # One for one: x of t is z of u, and z of t is x of u.
        catalog = with_facts(("u", key("x z")), ("t", ref("x z", "u", "z x")))
        for t, u, right in [("abc", "cda", True), ("abc", "adc", False), ("abc", "cdc ada", False), ("aba", "aca", True)]:
            self.check(catalog, empty(t=t, u=u), right)
        catalog = with_facts(("u", key("x y")), ("t", ref("z z", "u", "x y")))
        self.check(catalog, empty(t="abc", u="ccd"), True)
        self.check(catalog, empty(t="abc", u="cdc"), False)

    def test_any_objects(self):
        for catalog in (with_facts(), catalog_of(*table("main.t", "x"))):
            for thing in samples.any_objects() + samples.very_large_objects():
                self.check(catalog, thing, False)
                self.check(catalog, {0: thing}, checking.is_data(catalog, {0: thing}))
                self.check(catalog, {0: [thing]}, checking.is_data(catalog, {0: [thing]}))
        for thing in [with_facts(), plain((0,), (V, ((9, 0),)), lists=(None,)), [empty()], (empty(),)]:
            self.check(with_facts(), thing, False)
        self.assertIs(is_data(thing=empty(), catalog=with_facts()), True)

    def test_worlds(self):
        seen = {True: 0, False: 0}
        for seed in range(250):
            source = random.Random(seed)
            catalog = worlds.make_table_catalog(source, 12)
            some = source.choice([[], worlds.closed_facts(source, catalog)])
            data = worlds.make_data(source, catalog, some, source.choice([2, 3, 4]), 40)
            if data is not None:
                before = copy.deepcopy(data)
                right = checking.is_data(catalog, data)
                self.check(catalog, data, right)
                self.assertEqual(data, before)
                seen[right] += 1
        self.assertGreater(min(seen.values()), 40, seen)


class AnswersTest(unittest.TestCase):
    catalog = with_facts()

    def check(self, one, data, answers, flat=False):
        before = copy.deepcopy((one, data))
        found = answers_to(self.catalog, one, data, flat=flat)
        self.assertEqual(found, answers)
        self.assertIs(type(found), dict)
        self.assertTrue(all([type(many) is int for many in found.values()]))
        self.assertEqual(answers_to(self.catalog, distinct(one), data, flat=flat), {row: 1 for row in answers})
        self.assertEqual((one, data), before)

    def test_how_often_a_row_is_told(self):
        one = plain((0,), (V, ((9, 0),)), lists=(None,))
        self.check(one, empty(), {})
        self.check(one, empty(v="a b"), {("a",): 1, ("b",): 1})
        self.check(one, empty(v="a b a a", t="abc"), {("a",): 3, ("b",): 1})
        self.check(plain((0, 0), (V, ((9, 0),)), lists=(None,)), empty(v="a"), {("a", "a"): 1})

    def test_several_rows(self):
        one = plain((0,), (V, ((9, 0),)), (T, ()), lists=(None,))
        self.check(one, empty(v="a b a"), {})
        self.check(one, empty(v="a b a", t="abc abc def"), {("a",): 6, ("b",): 3})
        self.check(plain(("c",), (V, ()), (V, ())), empty(v="a b a"), {("c",): 9})
        self.check(plain((0, 1), (V, ((9, 0),)), (V, ((9, 1),)), lists=NONE2), empty(v="a b"), {(x, y): 1 for x in "ab" for y in "ab"})

    def test_classes_values_and_lists(self):
        one = plain((0,), (T, ((1, 0), (2, 1))), (U, ((5, 1),)), lists=NONE2)
        data = empty(t="abc acc dbe", u="bxx bxy cxx")
        self.check(one, data, {("a",): 3, ("d",): 2})
        self.check(plain((0,), (T, ((1, 0), (2, "b"))), lists=(None,)), data, {("a",): 1, ("d",): 1})
        self.check(plain((0,), (T, ((1, 0), (2, 1))), lists=(None, ("b", "c"))), data, {("a",): 2, ("d",): 1})
        self.check(plain((0,), (T, ((1, 0), (2, 1))), lists=(("a", "z"), ("c", "d"))), data, {("a",): 1})
        self.check(plain((0,), (T, ((1, 0), (2, 1))), lists=(None, ())), data, {})
        self.check(plain((0,), (T, ((1, 0), (2, 0))), lists=(None,)), empty(t="aab abb bba"), {("a",): 1, ("b",): 1})
        self.check(plain((0,), (T, ((1, 0), (2, 0), (3, 0))), lists=(("a", "b"),)), empty(t="aab aaa ccc"), {("a",): 1})

    def test_what_is_told(self):
        data = empty(v="a b b")
        self.check(plain(("c",), (V, ())), data, {("c",): 3})
        self.check(plain(("c", 0, "d"), (V, ((9, 0),)), lists=(None,)), data, {("c", "a", "d"): 1, ("c", "b", "d"): 2})
        self.check(plain(("in",), (V, ((9, "b"),))), data, {("in",): 2})

    def test_calls(self):
        data = empty(t="abx acx bbx")
        one = plain((("call", F, (0,)),), (T, ((1, 0),)), lists=(None,))
        self.check(one, data, {(("call", F, ("a",)),): 2, (("call", F, ("b",)),): 1})
        self.check(one, data, {(("call",),): 3}, True)
        one = plain((("call", G, (0, 1)), 0), (T, ((1, 0), (2, 1))), lists=NONE2)
        self.check(one, data, {(("call", G, tuple(word)), word[0]): 1 for word in ("ab", "ac", "bb")})
        self.check(one, data, {(("call",), "a"): 2, (("call",), "b"): 1}, True)
        one = plain((("call", F, ("c",)), ("call", F, (0,))), (T, ((1, 0),)), lists=(None,))
        self.check(one, data, {(("call", F, ("c",)), ("call", F, (value,))): 1 + (value == "a") for value in "ab"})
        self.check(one, data, {(("call",), ("call",)): 3}, True)

    def test_calls_within_calls(self):
        data = empty(t="abx acx bbx")
        inner = [("call", F, (0,)), ("call", G, (1, ("call", F, (0,))))]
        one = plain((("call", G, tuple(inner)), "z"), (T, ((1, 0), (2, 1))), lists=NONE2)
        told = [("call", G, (("call", F, (x,)), ("call", G, (y, ("call", F, (x,)))))) for x, y in ("ab", "ac", "bb")]
        self.check(one, data, {(term, "z"): 1 for term in told})
        self.check(one, data, {(("call",), "z"): 3}, True)

    def test_unlike_calls_are_unlike(self):
        catalog = after_deed(self.catalog, ("function", "own", "f", ("text",), "text"))
        data = empty(v="a a")
        for other in (("call", 12, (0,)), ("call", G, (0, 0)), ("call", F, (("call", F, (0,)),)), 0):
            one, two = [plain((term,), (V, ((9, 0),)), lists=(None,)) for term in (("call", F, (0,)), other)]
            self.assertNotEqual(answers_to(catalog, one, data), answers_to(catalog, two, data))
            flat = [answers_to(catalog, plan, data, flat=True) for plan in (one, two)]
            self.assertIs(flat[0] == flat[1], other != 0)

    def test_what_is_returned_is_new(self):
        data, one = empty(v="a"), plain((0,), (V, ((9, 0),)), lists=(None,))
        answers_to(self.catalog, one, data).clear()
        self.check(one, data, {("a",): 1})

    def test_flat_is_passed_by_name(self):
        self.assertEqual(str(inspect.signature(answers_to)), "(catalog, plan, data, *, flat=False)")
        one = plain((("call", F, (0,)),), (V, ((9, 0),)), lists=(None,))
        self.assertEqual(answers_to(data=empty(v="a"), plan=one, catalog=self.catalog), {(("call", F, ("a",)),): 1})
        self.assertEqual(answers_to(flat=True, data=empty(v="a"), plan=one, catalog=self.catalog), {(("call",),): 1})
        with self.assertRaises(TypeError):
            answers_to(self.catalog, one, empty(), True)

    def test_many_rows(self):
        data = {T: [("a", str(at % 7).translate({48 + k: 97 + k for k in range(10)}), "c") for at in range(700)], U: [], V: [("a",)] * 300}
        one = plain((0,), (T, ((1, 1), (2, 0))), (V, ()), (V, ((9, 1),)), (T, ((1, 1),)), lists=NONE2)
        self.check(one, data, {(letter,): 100 * 300 * 300 * 700 for letter in "abcdefg"})

    def test_worlds(self):
        seen = {}
        for seed in range(150):
            source = random.Random(seed)
            catalog = worlds.make_table_catalog(source)
            data = worlds.make_data(source, catalog, worlds.facts_in(catalog), 4)
            for _ in range(4):
                one = worlds.make_plan(source, catalog)
                for flat in (False, True):
                    if data is not None:
                        found = answers_to(catalog, one, data, flat=flat)
                        self.assertEqual(found, slow.answers(catalog, one, data, flat))
                        seen[len(found)] = seen.get(len(found), 0) + 1
        self.assertTrue(len(seen) > 5 and sum(seen.values()) - seen[0] > 200, seen)


class BindingTest(unittest.TestCase):
    """The answers of the plan of a binding are just what the binding says."""

    def check(self, catalog, binding, data):
        one = plan_of(catalog, binding)
        for flat in (False, True):
            rows = slow.said(catalog, binding, data, flat)
            self.assertEqual(answers_to(catalog, one, data, flat=flat), {row: 1 for row in rows} if binding[0] else slow.counted(rows))
        return one

    def test_worlds(self):
        told = 0
        for seed in range(120):
            source = random.Random(seed)
            catalog = worlds.make_catalog(source, 45)
            data = worlds.make_data(source, catalog, worlds.facts_in(catalog), 3, 50)
            for _ in range(12 if data is not None else 0):
                statement, path, role = worlds.make_any(source, catalog)
                if raised(binding_of, catalog, statement, path, role) is None:
                    one = self.check(catalog, binding_of(catalog, statement, path, role), data)
                    told += len(answers_to(catalog, one, data)) > 0
        self.assertGreater(told, 40)

    def test_written_out(self):
        """A rule, and a view, say what the statement says in which they are written out."""
        deeds = [*table("main.t", "x, y", "boss", "kim"), ("rule", "kim", "main", "t", "y", ("a", "b")), *view("main.v", "select y as k, x as l from t a where y in ('b', 'c')", "main", "boss", "kim")]
        catalog = catalog_of(*deeds)
        texts = [
            ("kim", "select x from t", "boss", "select x from t where y in ('a', 'b')"),
            ("boss", "select l, v.k from v where l in ('c')", "boss", "select x, y from t where y in ('b', 'c') and x in ('c')"),
            ("kim", "select v.l, v.k from v", "boss", "select x, y from t where y in ('b', 'c') and y in ('a', 'b')"),
            ("kim", "select distinct a.k, b.l from v a, v b where a.l = b.k", "boss",
             "select distinct a.y, b.x from t a, t b where a.x = b.y and a.y in ('b') and b.y in ('b')"),
        ]
        for role, text, other, written in texts:
            plans = [plan_of(catalog, binding_of(catalog, read(one), ("main",), who)) for who, one in ((role, text), (other, written))]
            for seed in range(40):
                data = worlds.make_data(random.Random(seed), catalog, [], 4)
                self.assertEqual(*[answers_to(catalog, plan, data) for plan in plans])
            self.assertIs(alike(catalog, *plans), True)


class AllDataTest(unittest.TestCase):
    """What cases, likeness, "tells once" and lean plans say of answers on data that keep the facts."""

    def test_worlds(self):
        seen = {}
        for seed in range(200):
            source = random.Random(seed)
            catalog = worlds.make_table_catalog(source, 12)
            facts = worlds.facts_in(catalog)
            datas = [worlds.make_data(source, catalog, facts, 3, 60) for _ in range(3)]
            for _ in range(3):
                one, two = worlds.make_pair(source, catalog)
                for data in datas:
                    if data is not None:
                        self.check(catalog, one, two, data, seen)
        self.assertGreater(min([seen[word] for word in ("alike", "apart", "once", "often", "lean", "cases")]), 20, seen)

    def check(self, catalog, one, two, data, seen):
        for flat in (False, True):
            answers = answers_to(catalog, one, data, flat=flat)
            self.assertEqual(slow.case_answers(catalog, cases_of(catalog, one), data, flat), answers_to(catalog, (False,) + one[1:], data, flat=flat))
            seen["cases"] = seen.get("cases", 0) + (answers != {})
            if alike(catalog, one, two):
                self.assertEqual(answers, answers_to(catalog, two, data, flat=flat))
            word = "alike" if alike(catalog, one, two) else "apart"
            seen[word] = seen.get(word, 0) + (one != two and answers != {})
            word = "once" if tells_once(catalog, one) else "often"
            if word == "once":
                self.assertLessEqual(max(answers.values(), default=1), 1)
            seen[word] = seen.get(word, 0) + (not one[0] and len(answers) > 0)
            lean = lean_plan(catalog, one)
            self.assertEqual(answers_to(catalog, lean, data, flat=flat), answers)
            seen["lean"] = seen.get("lean", 0) + (lean != one and answers != {})
