"""[17] and [32]: the cases of a plan."""

import copy
import itertools
import random
import unittest

from boundonce.cases import cases_of
from tests import slow, worlds
from tests.built import catalog_of, function, table

X8 = tuple("abcdefgh")


def with_facts(*facts):
    """Return a catalog with t (0: x 1, y 2, z 3), u (4: x 5, y 6, z 7) and v (8: x 9), functions f (10) and g (11), and facts (name, fact)."""
    return catalog_of(*table("main.t", "x, y, z"), *table("main.u", "x, y, z"), *table("main.v", "x"), *function("main.f", "text"), *function("main.g", "text"),
                      *[("fact", "main", name, fact) for name, fact in facts])


def ref(columns, name, others):
    return ("ref", tuple(columns.split()), "main", name, tuple(others.split()))


def key(columns):
    return ("key", tuple(columns.split()))


def plan(told, *rows, lists=()):
    return (False, told, rows, lists)


def numbered(case):
    """Return the case with classes numbered as they occur in told, then in rows taken in the best order."""
    found = []
    for rows in itertools.permutations(case[1]):
        order = {}

        def named(term):
            if isinstance(term, tuple):
                return ("call", term[1], tuple([named(part) for part in term[2]]))
            return term if isinstance(term, str) else order.setdefault(term, len(order))
        found.append(repr((tuple([named(term) for term in case[0]]), tuple([(number, tuple([named(term) for term in terms])) for number, terms in rows]))))
    return min(found)


class CasesCase(unittest.TestCase):
    def check(self, catalog, one, cases, by=None):
        """The cases are these, in any order, numbered in any way."""
        before = copy.deepcopy((one, by))
        found = cases_of(catalog, one, by)
        self.assertIs(type(found), list)
        self.assertEqual(sorted([numbered(case) for case in found]), sorted([numbered(case) for case in cases]))
        self.assertEqual((one, by), before)
        for case in found:
            self.check_form(catalog, case)

    def check_form(self, catalog, case):
        self.assertEqual([type(part) for part in (case, *case)], [tuple, tuple, tuple])
        seen = set()
        for row in case[1]:
            self.assertEqual([type(part) for part in (row, *row)], [tuple, int, tuple])
            self.assertEqual(len(row[1]), len(catalog.thing_of(row[0])[3]))
            seen |= {term for term in row[1] if not isinstance(term, str)}
        self.assertEqual(seen, set(range(len(seen))))


class NoFactsTest(CasesCase):
    def test_each_column_has_a_class(self):
        catalog = with_facts()
        self.check(catalog, plan((0,), (0, ((1, 0),)), lists=(None,)), [((0,), ((0, (0, 1, 2)),))])
        self.check(catalog, plan(("a",), (8, ()), (0, ((2, 0), (3, 0))), lists=(None,)), [(("a",), ((8, (0,)), (0, (1, 2, 2))))])
        self.check(catalog, plan((("call", 10, (0,)), "b"), (8, ((9, 0),)), lists=(None,)), [((("call", 10, (0,)), "b"), ((8, (0,)),))])

    def test_a_table_without_a_key_has_rows_several_times(self):
        self.check(with_facts(), plan((0,), (8, ((9, 0),)), (8, ((9, 0),)), (8, ((9, 0),)), lists=(None,)), [((0,), ((8, (0,)),) * 3)])
        self.check(with_facts(), plan(("a",), (8, ((9, "b"),)), (8, ((9, "b"),))), [(("a",), ((8, ("b",)),) * 2)])

    def test_lists_are_cut(self):
        one = plan((0, ("call", 10, (1,))), (8, ((9, 0),)), (8, ((9, 1),)), lists=(("a", "b"), ("a", "c")))
        self.check(with_facts(), one, [((p, ("call", 10, (q,))), ((8, (p,)), (8, (q,)))) for p in "ab" for q in "ac"])
        self.check(with_facts(), plan((0,), (8, ((9, 0),)), lists=(X8,)), [((value,), ((8, (value,)),)) for value in X8])

    def test_a_list_of_no_value_leaves_no_case(self):
        self.check(with_facts(), plan((0,), (8, ((9, 0),)), lists=((),)), [])
        self.check(with_facts(), plan((0,), (8, ((9, 0),)), (8, ((9, 1),)), lists=(None, ())), [])

    def test_equal_cases_are_each_there(self):
        one = plan(("a",), (8, ((9, 0),)), (8, ((9, 1),)), lists=(("a", "b"), ("a", "b")))
        found = cases_of(with_facts(), one)
        self.assertEqual(sorted([numbered(case) for case in found]).count(numbered((("a",), ((8, ("a",)), (8, ("b",)))))), 2)
        self.assertEqual(len(found), 4)

    def test_distinct_means_nothing(self):
        self.check(with_facts(), (True,) + plan((0,), (8, ((9, 0),)), lists=(("a", "b"),))[1:], [((value,), ((8, (value,)),)) for value in "ab"])


class ValuesTest(CasesCase):
    def test_a_column_has_only_values(self):
        catalog = with_facts(("v", ("in", "x", ("a", "b"))))
        for one in [plan((0,), (8, ((9, 0),)), lists=(None,)), plan((0,), (8, ((9, 0),)), lists=(("a", "b", "c"),))]:
            self.check(catalog, one, [((value,), ((8, (value,)),)) for value in "ab"])
        self.check(catalog, plan((0,), (8, ((9, 0),)), lists=(("b", "c"),)), [(("b",), ((8, ("b",)),))])
        self.check(catalog, plan((0,), (8, ((9, 0),)), lists=(("c", "d"),)), [])
        self.check(catalog, plan(("a",), (8, ((9, "c"),))), [])
        self.check(catalog, plan(("a",), (8, ((9, "b"),))), [(("a",), ((8, ("b",)),))])

    def test_columns_that_a_plan_does_not_name_are_cut_too(self):
        catalog = with_facts(("v", ("in", "x", ("a", "b"))))
        self.check(catalog, plan(("c",), (8, ()), (8, ())), [(("c",), ((8, (p,)), (8, (q,)))) for p in "ab" for q in "ab"])

    def test_one_value_and_eight(self):
        self.check(with_facts(("v", ("in", "x", ("a",)))), plan((0,), (8, ((9, 0),)), lists=(None,)), [(("a",), ((8, ("a",)),))])
        self.check(with_facts(("v", ("in", "x", X8))), plan((0,), (8, ((9, 0),)), lists=(None,)), [((value,), ((8, (value,)),)) for value in X8])

    def test_several_facts_of_a_column(self):
        catalog = with_facts(("v", ("in", "x", ("a", "b", "c"))), ("v", ("in", "x", ("b", "c", "d"))), ("t", ("in", "y", ("c", "d"))))
        self.check(catalog, plan((0,), (8, ((9, 0),)), lists=(None,)), [((value,), ((8, (value,)),)) for value in "bc"])
        self.check(catalog, plan((0,), (8, ((9, 0),)), (0, ((2, 0),)), lists=(None,)), [(("c",), ((8, ("c",)), (0, (0, "c", 1))))])


class KeysTest(CasesCase):
    def test_rows_that_agree_are_one(self):
        catalog = with_facts(("t", key("x")))
        self.check(catalog, plan((1, 2), (0, ((1, 0), (2, 1))), (0, ((1, 0), (2, 2))), lists=(None,) * 3), [((0, 0), ((0, (1, 0, 2)),))])
        self.check(catalog, plan((0, 1), (0, ((1, 0),)), (0, ((1, 1),)), lists=(None,) * 2), [((0, 1), ((0, (0, 2, 3)), (0, (1, 4, 5))))])
        self.check(catalog, plan((0,), (0, ((1, "a"), (2, 0))), (0, ((1, "a"), (3, 1))), (0, ((1, "b"), (2, 1))), lists=(None,) * 2),
                   [((0,), ((0, ("a", 0, 1)), (0, ("b", 1, 2))))])

    def test_all_columns_of_a_key(self):
        for names, more in [("x y", 1), ("x y z", 0)]:
            catalog = with_facts(("t", key(names)))
            self.check(catalog, plan((0,), (0, ((1, 0), (2, 1))), (0, ((1, 0), (2, 1))), lists=(None,) * 2),
                       [((0,), ((0, (0, 1, 2)),) if more else ((0, (0, 1, 2)), (0, (0, 1, 3))))])
            self.check(catalog, plan((0,), (0, ((1, 0), (3, 1))), (0, ((1, 0), (3, 1))), lists=(None,) * 2),
                       [((0,), ((0, (0, 2, 1)), (0, (0, 3, 1))))])
            self.check(catalog, plan(("a",), (0, ((1, "a"), (2, "b"), (3, "c"))), (0, ((1, "a"), (2, "b"), (3, "c")))), [(("a",), ((0, ("a", "b", "c")),))])

    def test_one_key_leads_to_another_one(self):
        catalog = with_facts(("t", key("x")), ("u", key("y")), ("v", key("x")))
        rows = [(0, ((1, 0), (2, 1))), (0, ((1, 0), (2, 2))), (4, ((6, 1), (7, 3))), (4, ((6, 2), (7, 4)))]
        for order in itertools.permutations(rows):
            one = slow.renumbered(plan((3,), *order, lists=(None,) * 5))
            self.check(catalog, one, [((0,), ((0, (1, 2, 3)), (4, (4, 2, 0))))])

    def test_several_keys_of_a_table(self):
        catalog = with_facts(("t", key("x")), ("t", key("y z")))
        one = plan((0,), (0, ((1, 0), (2, 1))), (0, ((1, 0), (3, 2))), (0, ((2, 1), (3, 2))), lists=(None,) * 3)
        self.check(catalog, one, [((0,), ((0, (0, 1, 2)),))])

    def test_values_that_both_lists_name(self):
        catalog = with_facts(("t", key("x")))
        one = plan((1,), (0, ((1, 0), (2, 1))), (0, ((1, 0), (2, 2))), lists=(None, ("a", "b", "c"), ("b", "c", "d")))
        self.check(catalog, one, [((value,), ((0, (0, value, 1)),)) for value in "bc"])
        one = plan((1,), (0, ((1, 0), (2, 1))), (0, ((1, 0), (2, 2))), lists=(None, ("a", "b"), ("b", "c")))
        self.check(catalog, one, [(("b",), ((0, (0, "b", 1)),))])

    def test_two_values_would_be_one(self):
        catalog = with_facts(("t", key("x")))
        self.check(catalog, plan((0,), (0, ((1, 0), (2, "a"))), (0, ((1, 0), (2, "b"))), lists=(None,)), [])
        self.check(catalog, plan((0,), (0, ((1, 0), (2, 1))), (0, ((1, 0), (2, 2))), lists=(None, ("a", "b"), ("c", "d"))), [])
        self.check(catalog, plan((0,), (0, ((1, 0), (2, "a"))), (0, ((1, 0), (2, "a"))), lists=(None,)), [((0,), ((0, (0, "a", 1)),))])

    def test_keys_in_cases(self):
        # Where both rows are given the same value they are one, and one of the cases falls.
        catalog = with_facts(("t", key("x")))
        one = plan((0, 1), (0, ((1, 0), (2, "a"))), (0, ((1, 1), (2, "b"))), lists=(("p", "q"), ("p", "q")))
        self.check(catalog, one, [(("p", "q"), ((0, ("p", "a", 0)), (0, ("q", "b", 1)))), (("q", "p"), ((0, ("q", "a", 0)), (0, ("p", "b", 1))))])
        one = plan((0, 1), (0, ((1, 0),)), (0, ((1, 1),)), lists=(("p", "q"), ("p", "r")))
        self.check(catalog, one, [(("p", "p"), ((0, ("p", 0, 1)),))] + [((p, q), ((0, (p, 0, 1)), (0, (q, 2, 3)))) for p, q in ("pr", "qp", "qr")])


class ReferencesTest(CasesCase):
    def test_a_row_is_put_in(self):
        catalog = with_facts(("u", key("y")), ("t", ref("x", "u", "y")))
        self.check(catalog, plan((0,), (0, ((1, 0),)), lists=(None,)), [((0,), ((0, (0, 1, 2)), (4, (3, 0, 4))))])
        self.check(catalog, plan(("b",), (0, ((1, "a"),))), [(("b",), ((0, ("a", 1, 2)), (4, (3, "a", 4))))])
        self.check(catalog, plan(("b",), (4, ())), [(("b",), ((4, (0, 1, 2)),))])

    def test_a_row_that_is_there(self):
        catalog = with_facts(("u", key("y")), ("t", ref("x", "u", "y")))
        for rows in itertools.permutations([(0, ((1, 0),)), (4, ((6, 0), (7, 1)))]):
            self.check(catalog, plan((1, 0), *rows, lists=(None,) * 2), [((1, 0), ((0, (0, 2, 3)), (4, (4, 0, 1))))])
        self.check(catalog, plan((1, 0), (0, ((1, 0),)), (4, ((6, 1),)), lists=(None,) * 2),
                   [((1, 0), ((0, (0, 2, 3)), (4, (4, 1, 5)), (4, (6, 0, 7))))])

    def test_rows_that_two_rows_lead_to(self):
        catalog = with_facts(("u", key("y")), ("t", ref("x", "u", "y")), ("t", ref("z", "u", "y")))
        self.check(catalog, plan((0,), (0, ((1, 0), (3, 0))), lists=(None,)), [((0,), ((0, (0, 1, 0)), (4, (2, 0, 3))))])
        self.check(catalog, plan((0,), (0, ((1, 0),)), (0, ((3, 0),)), lists=(None,)),
                   [((0,), ((0, (0, 1, 2)), (0, (3, 4, 0)), (4, (5, 0, 6)), (4, (7, 2, 8)), (4, (9, 3, 10))))])

    def test_two_columns_one_for_one(self):
        catalog = with_facts(("u", key("y z")), ("t", ref("z x", "u", "y z")))
        self.check(catalog, plan((0, 1), (0, ((1, 0), (3, 1))), lists=(None,) * 2), [((0, 1), ((0, (0, 2, 1)), (4, (3, 1, 0))))])
        self.check(catalog, plan((0, 1), (0, ((1, 0), (3, 1))), (4, ((6, 0), (7, 1))), lists=(None,) * 2),
                   [((0, 1), ((0, (0, 2, 1)), (4, (3, 1, 0)), (4, (4, 0, 1))))])
        catalog = with_facts(("u", key("y z")), ("t", ref("x x", "u", "y z")))
        self.check(catalog, plan((0,), (0, ((1, 0),)), lists=(None,)), [((0,), ((0, (0, 2, 1)), (4, (3, 0, 0))))])

    def test_rows_that_are_put_in_lead_on(self):
        catalog = with_facts(("u", key("y")), ("v", key("x")), ("t", ref("x", "u", "y")), ("u", ref("z", "v", "x")), ("v", ("in", "x", ("a", "b"))))
        self.check(catalog, plan((0,), (0, ((1, 0),)), lists=(None,)), [((0,), ((0, (0, 1, 2)), (4, (3, 0, p)), (8, (p,)))) for p in "ab"])

    def test_values_come_from_the_other_table(self):
        catalog = with_facts(("v", key("x")), ("v", ("in", "x", ("a", "b"))), ("t", ref("y", "v", "x")))
        self.check(catalog, plan((0,), (0, ((2, 0),)), lists=(None,)), [((p,), ((0, (0, p, 1)), (8, (p,)))) for p in "ab"])
        self.check(catalog, plan(("c",), (0, ((2, "c"),))), [])

    def test_a_key_joins_rows_that_are_put_in(self):
        # One row is put in for each, then the key of t makes these one.
        catalog = with_facts(("t", key("x")), ("u", key("y")), ("t", ref("z", "u", "y")))
        one = plan((1, 2), (0, ((1, 0), (3, 1))), (0, ((1, 0), (3, 2))), lists=(None,) * 3)
        self.check(catalog, one, [((0, 0), ((0, (1, 2, 0)), (4, (3, 0, 4))))])

    def test_references_to_tables_made_before_and_later(self):
        catalog = with_facts(("t", key("x")), ("u", ref("x", "t", "x")), ("v", ref("x", "t", "x")))
        self.check(catalog, plan((0,), (8, ((9, 0),)), (4, ((5, 0),)), lists=(None,)), [((0,), ((8, (0,)), (4, (0, 1, 2)), (0, (0, 3, 4))))])
        catalog = with_facts(("v", key("x")), ("t", ref("x", "v", "x")), ("u", ref("x", "v", "x")))
        self.check(catalog, plan((0,), (0, ((1, 0),)), (4, ((5, 0),)), lists=(None,)), [((0,), ((0, (0, 1, 2)), (4, (0, 3, 4)), (8, (0,))))])


class SomeFactsTest(CasesCase):
    def setUp(self):
        self.catalog = with_facts(("u", key("y")), ("u", key("x")), ("t", ref("x", "u", "y")), ("u", ("in", "z", ("a", "b"))))
        self.plan = plan((0,), (0, ((1, 0),)), (4, ((6, 0), (5, 1))[::-1]), (4, ((5, 1),)), lists=(None,) * 2)
        self.key, self.other, self.ref, self.list = (4, ("key", (6,))), (4, ("key", (5,))), (0, ("ref", (1,), 4, (6,))), (4, ("in", 7, ("a", "b")))

    def test_none(self):
        self.check(self.catalog, self.plan, [((0,), ((0, (0, 2, 3)), (4, (1, 0, 4)), (4, (1, 5, 6))))], [])

    def test_some_in_any_order(self):
        for by in itertools.permutations([self.key, self.ref, self.other]):
            self.check(self.catalog, self.plan, [((0,), ((0, (0, 2, 3)), (4, (1, 0, 4))))], list(by))
        self.check(self.catalog, self.plan, [((0,), ((0, (0, 2, 3)), (4, (1, 0, 4)), (4, (1, 5, 6))))], [self.ref, self.key])
        self.check(self.catalog, self.plan, [((0,), ((0, (0, 2, 3)), (4, (1, 0, p)), (4, (1, 5, q)))) for p in "ab" for q in "ab"], [self.list, self.key])

    def test_all_and_none(self):
        cases = [((0,), ((0, (0, 2, 3)), (4, (1, 0, p)))) for p in "ab"]
        for by in itertools.permutations([self.key, self.other, self.ref, self.list]):
            self.check(self.catalog, self.plan, cases, list(by))
        self.check(self.catalog, self.plan, cases)
        self.check(self.catalog, self.plan, cases, None)
        self.assertEqual(len(cases_of(by=None, plan=self.plan, catalog=self.catalog)), 2)

    def test_without_a_key_among_them_a_row_may_stand_twice(self):
        one = plan(("a",), (4, ((5, "a"), (6, "a"), (7, "a"))), (4, ((5, "a"), (6, "a"), (7, "a"))))
        self.check(self.catalog, one, [(("a",), ((4, ("a", "a", "a")),) * 2)], [self.list])
        self.check(self.catalog, one, [(("a",), ((4, ("a", "a", "a")),))], [self.key])


class WorldsTest(unittest.TestCase):
    def test_cases_answer_what_plans_do_and_keep_the_facts(self):
        sizes = {}
        for seed in range(100):
            source = random.Random(seed)
            catalog = worlds.make_table_catalog(source)
            for _ in range(8):
                one = worlds.make_plan(source, catalog)
                by = source.choice([None, None, [], worlds.closed_facts(source, catalog)])
                facts = worlds.facts_in(catalog) if by is None else by
                cases = cases_of(catalog, one, by)
                sizes[min(len(cases), 2)] = sizes.get(min(len(cases), 2), 0) + 1
                if len(cases) > 32:
                    continue
                self.compare(source, catalog, (False,) + one[1:], cases, facts)

    def compare(self, source, catalog, one, cases, facts):
        keyed = {number for number, fact in facts if fact[0] == "key"}
        for told, rows in cases:
            # The rows of a case keep the facts if each class is a value of its own.
            worth = {number: "q" + chr(97 + number // 26) + chr(97 + number % 26) for number in range(300)}
            self.assertTrue(slow.keeps(catalog, slow.frozen(catalog, rows, worth), facts), (one, facts, rows))
            for number, terms in rows:
                self.assertTrue(number not in keyed or rows.count((number, terms)) == 1)
        for _ in range(3):
            data = worlds.make_data(source, catalog, facts, tries=20)
            for flat in (False, True) if data is not None else ():
                self.assertEqual(slow.case_answers(catalog, cases, data, flat), slow.answers(catalog, one, data, flat), (one, facts, data))
