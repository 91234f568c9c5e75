"""[18] and [33]: whether plans tell rows once, and whether two plans are alike."""

import copy
import itertools
import random
import unittest

from boundonce.cases import cases_of
from boundonce.likeness import alike, tells_once
from tests import slow, worlds
from tests.test_cases import key, ref, with_facts


def plain(told, *rows, lists=()):
    return (False, told, rows, lists)


def distinct(one):
    return (True,) + one[1:]


T, U, V = 0, 4, 8
NONE2, NONE3 = (None,) * 2, (None,) * 3


class TellsOnceTest(unittest.TestCase):
    def check(self, catalog, one, once, by=None):
        self.assertIs(tells_once(catalog, one, by), once)
        self.assertIs(tells_once(catalog, distinct(one), by), True)

    def test_the_key_is_told(self):
        one = plain((0,), (T, ((1, 0),)), lists=(None,))
        self.check(with_facts(("t", key("x"))), one, True)
        self.check(with_facts(("t", key("y"))), one, False)
        self.check(with_facts(("t", key("x y"))), one, False)
        self.check(with_facts(), one, False)
        self.check(with_facts(("t", key("y x"))), plain((0, 1), (T, ((1, 0), (2, 1))), lists=NONE2), True)

    def test_a_table_without_a_key(self):
        for told in [(0, 1, 2), (0, ("call", 10, (1,)), 2)]:
            self.check(with_facts(), plain(told, (T, ((1, 0), (2, 1), (3, 2))), lists=NONE3), False)
        self.check(with_facts(("t", key("x"))), plain((0,), (T, ((1, 0),)), (V, ()), lists=(None,)), False)

    def test_each_row_and_its_twin(self):
        catalog = with_facts(("t", key("x")), ("u", key("x")))
        self.check(catalog, plain((0, 1), (T, ((1, 0),)), (U, ((5, 1),)), lists=NONE2), True)
        self.check(catalog, plain((0,), (T, ((1, 0),)), (U, ()), lists=(None,)), False)
        self.check(catalog, plain((0,), (T, ((1, 0), (2, 1))), (U, ((5, 1),)), lists=NONE2), True)
        self.check(catalog, plain((0,), (T, ((1, 0), (2, 1))), (U, ((6, 1),)), lists=NONE2), False)
        self.check(catalog, plain((0,), (T, ((1, 0),)), (T, ((1, 0),)), lists=(None,)), True)

    def test_calls_are_not_told(self):
        catalog = with_facts(("t", key("x")))
        self.check(catalog, plain((("call", 10, (0,)),), (T, ((1, 0),)), lists=(None,)), False)
        self.check(catalog, plain((("call", 10, (0,)), 0), (T, ((1, 0),)), lists=(None,)), True)
        self.check(catalog, plain((("call", 10, ("b",)),), (T, ((1, "a"),))), True)

    def test_values_instead_of_what_is_told(self):
        catalog = with_facts(("t", key("x")))
        self.check(catalog, plain(("a",), (T, ((1, "b"),))), True)
        self.check(catalog, plain(("a",), (T, ((2, "b"),))), False)
        self.check(catalog, plain(("a",), (T, ((1, 0),)), lists=(("a", "b"),)), False)
        self.check(catalog, plain(("a",), (T, ((1, 0),)), lists=((),)), True)

    def test_by_values_of_facts_and_by_references(self):
        one = plain((0,), (T, ((1, 0),)), lists=(None,))
        self.check(with_facts(("t", key("y")), ("t", ("in", "y", ("a",)))), one, True)
        self.check(with_facts(("t", key("y")), ("t", ("in", "y", ("a", "b")))), one, False)
        self.check(with_facts(("t", key("x y")), ("t", ("in", "y", ("a",)))), one, True)
        # The key of t is reached by the row of u to which both lead.
        catalog = with_facts(("t", key("x")), ("u", key("x")), ("u", ref("y", "t", "x")))
        self.check(catalog, plain((0,), (U, ((5, 0), (6, 1))), (T, ((1, 1),)), lists=NONE2), True)

    def test_rows_that_are_one_in_each_case(self):
        # What is told is p where y is a, and q where y is b, so rows with other values of y tell something else.
        one = plain((0,), (U, ((6, 1), (7, 0))), (U, ((6, "a"), (7, "p"))), (U, ((6, "b"), (7, "q"))), lists=(None, ("a", "b")))
        self.check(with_facts(("u", key("y"))), one, True)
        self.check(with_facts(("u", key("y"))), one[:2] + (one[2][:2], one[3]), False)
        self.check(with_facts(("u", key("y z"))), one, False)
        self.assertIs(alike(with_facts(("u", key("y"))), one, distinct(one)), True)

    def test_some_facts(self):
        catalog = with_facts(("t", key("x")), ("t", key("y")), ("t", ("in", "z", ("a",))))
        one = plain((0,), (T, ((1, 0),)), lists=(None,))
        for by, once in [([], False), ([(T, ("key", (1,)))], True), ([(T, ("key", (2,)))], False), ([(T, ("in", 3, ("a",))), (T, ("key", (1,)))], True), (None, True)]:
            self.check(catalog, one, once, by)
        self.assertIs(tells_once(by=[], plan=one, catalog=catalog), False)


class AlikeTest(unittest.TestCase):
    def check(self, catalog, one, two, same, by=None):
        before = copy.deepcopy((one, two, by))
        self.assertIs(alike(catalog, one, two, by), same)
        self.assertIs(alike(catalog, two, one, by), same)
        self.assertIs(alike(catalog, one, one, by), True)
        self.assertEqual((one, two, by), before)

    def test_the_order_of_rows_and_the_numbers_of_classes(self):
        rows = [(T, ((1, 0), (2, 1))), (T, ((1, 1), (2, 2))), (V, ((9, 2),))]
        plans = [slow.renumbered(plain((0,), *order, lists=NONE3)) for order in itertools.permutations(rows)]
        for catalog in (with_facts(), with_facts(("t", key("y")))):
            for one, two in itertools.combinations(plans, 2):
                self.check(catalog, one, two, True)
                self.check(catalog, distinct(one), distinct(two), True)
        self.check(with_facts(), plans[0], slow.renumbered(plain((2,), *rows, lists=NONE3)), False)

    def test_rows_count_unless_both_are_distinct(self):
        one, two = plain((0,), (V, ((9, 0),)), lists=(None,)), plain((0,), (V, ((9, 0),)), (V, ()), lists=(None,))
        three = plain((0,), (V, ((9, 0),)), (V, ((9, 0),)), lists=(None,))
        for catalog, same in [(with_facts(), False), (with_facts(("v", key("x"))), True)]:
            self.check(catalog, one, three, same)
            self.check(catalog, one, two, False)
            self.check(catalog, distinct(one), distinct(two), True)
            self.check(catalog, distinct(one), distinct(three), True)
            self.check(catalog, distinct(one), one, same)
            self.check(catalog, distinct(one), three, same)
            self.check(catalog, distinct(one), two, False)
            self.check(catalog, distinct(two), one, same)

    def test_what_is_told(self):
        catalog = with_facts(("t", key("x")))
        one = plain((0, 1), (T, ((1, 0), (2, 1))), lists=NONE2)
        for told in [(0,), (0, 1, 1), ("a", 0), (0, "a"), (0, ("call", 10, (1,)))]:
            other = slow.renumbered(plain(told, (T, ((1, 0), (2, 1))), lists=NONE2))
            self.check(catalog, one, other, False)
            self.check(catalog, distinct(one), distinct(other), False)
        self.check(catalog, plain(("a",), (V, ())), plain(("b",), (V, ())), False)
        self.check(catalog, distinct(plain(("a",), (V, ()))), distinct(plain(("b",), (V, ()))), False)

    def test_calls(self):
        catalog = with_facts()
        terms = [("call", 10, (0,)), ("call", 10, (1,)), ("call", 10, (("call", 10, (0,)),)), ("call", 10, ("a",)), ("call", 11, (0,)), 0, "a"]
        for one, two in itertools.combinations_with_replacement(terms, 2):
            plans = [slow.renumbered(plain((term, 0, 1), (T, ((1, 0), (2, 1))), lists=NONE2)) for term in (one, two)]
            self.check(catalog, *plans, one == two)
            self.check(catalog, distinct(plans[0]), distinct(plans[1]), one == two)

    def test_values_and_lists(self):
        catalog = with_facts(("v", key("x")))
        one = plain((0,), (V, ((9, 0),)), lists=(None,))
        some = [plain((0,), (V, ((9, 0),)), lists=(values,)) for values in [("a", "b"), ("a", "c"), ("a", "b", "c"), ()]]
        value = plain(("a",), (V, ((9, "a"),)))
        for two in some + [value]:
            self.check(catalog, one, two, False)
            self.check(catalog, distinct(one), distinct(two), False)
            self.check(catalog, distinct(one), two, False)
        for two, three in itertools.combinations(some + [value], 2):
            self.check(catalog, two, three, False)
            self.check(catalog, distinct(two), distinct(three), False)
            self.check(catalog, two, distinct(two), True)

    def test_no_cases(self):
        catalog = with_facts(("v", ("in", "x", ("a", "b"))))
        nothing = [plain((0,), (V, ((9, 0),)), lists=((),)), plain(("a", "b"), (V, ((9, "c"),))), plain(("c",), (T, ()), (V, ((9, 0),)), lists=(("c", "d"),))]
        for one, two in itertools.combinations(nothing, 2):
            self.check(catalog, one, two, True)
            self.check(catalog, distinct(one), two, True)
            self.check(catalog, distinct(one), distinct(two), True)
        self.check(catalog, nothing[0], plain((0,), (V, ((9, 0),)), lists=(None,)), False)
        self.check(catalog, distinct(nothing[0]), distinct(plain((0,), (V, ((9, 0),)), lists=(None,))), False)

    def test_a_reference_makes_a_row_needless(self):
        catalog = with_facts(("u", key("y")), ("t", ref("x", "u", "y")))
        one, two = plain((0,), (T, ((1, 0),)), lists=(None,)), plain((0,), (T, ((1, 0),)), (U, ((6, 0),)), lists=(None,))
        three = plain((0,), (U, ((6, 0),)), lists=(None,))
        for by, same in [(None, True), ([(U, ("key", (6,)))], False), ([], False), ([(T, ("ref", (1,), U, (6,))), (U, ("key", (6,)))], True)]:
            self.check(catalog, one, two, same, by)
            self.check(catalog, distinct(one), distinct(two), same, by)
            self.check(catalog, two, three, False, by)
            self.check(catalog, distinct(two), distinct(three), False, by)

    def test_a_list_of_a_fact_makes_a_list_needless(self):
        catalog = with_facts(("v", ("in", "x", ("a", "b"))))
        one, two = plain((0,), (V, ((9, 0),)), lists=(None,)), plain((0,), (V, ((9, 0),)), lists=(("a", "b", "c"),))
        self.check(catalog, one, two, True)
        self.check(catalog, one, two, False, [])
        self.check(catalog, two, plain((0,), (V, ((9, 0),)), lists=(("a", "c"),)), False)

    def test_a_key_makes_distinct_needless(self):
        catalog = with_facts(("t", key("x")), ("v", key("x")))
        one = plain((0,), (T, ((1, 0),)), lists=(None,))
        self.check(catalog, one, distinct(one), True)
        self.check(catalog, one, distinct(one), False, [])
        two = plain((0,), (T, ((1, 0), (2, 1))), (V, ((9, 1),)), lists=NONE2)
        self.check(catalog, two, distinct(two), True)
        three = plain((0,), (T, ((1, 0),)), (V, ()), lists=(None,))
        self.check(catalog, three, distinct(three), False)
        # As distinct plans they are alike, and one tells each row once, but the other one tells what it has not.
        self.check(catalog, distinct(two), one, False)

    def test_cases_are_the_same_each_as_often(self):
        catalog = with_facts()
        one = plain(("c",), (V, ((9, 0),)), (V, ((9, 1),)), lists=(("a", "b"), ("a", "b")))
        two = plain(("c",), (V, ((9, 0),)), (V, ((9, 1),)), lists=(("a", "b"), ("a", "b", "c")))
        self.check(catalog, one, two, False)
        self.check(catalog, plain(("c",), (V, ((9, "a"),)), (V, ((9, "b"),))), one, False)
        self.check(catalog, distinct(one), distinct(two), True)
        self.check(catalog, distinct(one), distinct(plain(("c",), (V, ((9, 0),)), lists=(("a", "b"),))), True)

    def test_as_often_with_a_key(self):
        # A row of which each value is there already leaves the same case twice.
        catalog = with_facts(("v", key("x")))
        one = plain(("c",), (V, ((9, "a"),)), (V, ((9, "b"),)))
        two = plain(("c",), *one[2], (V, ((9, 0),)), lists=(("a", "b"),))
        self.check(catalog, one, two, False)
        self.check(catalog, distinct(one), distinct(two), True)
        # The same cases, and as many, but not each as often.
        rows = [(V, ((9, number),)) for number in range(3)]
        one, two = [plain(("c",), *rows, lists=(("a", "b"), middle, ("a", "c"))) for middle in (("a", "b"), ("a", "c"))]
        self.check(catalog, one, two, False)
        self.check(catalog, distinct(one), distinct(two), True)

    def test_classes_lead_one_for_one(self):
        # A ring of four and two rings of two have the same rows and classes as often.
        ring = plain(("a",), *[(T, ((1, at), (2, (at + 1) % 4))) for at in range(4)], lists=(None,) * 4)
        rings = plain(("a",), (T, ((1, 0), (2, 1))), (T, ((1, 1), (2, 0))), (T, ((1, 2), (2, 3))), (T, ((1, 3), (2, 2))), lists=(None,) * 4)
        self.check(with_facts(), slow.renumbered(ring), slow.renumbered(rings), False)
        self.check(with_facts(), distinct(slow.renumbered(ring)), distinct(slow.renumbered(rings)), False)
        turned = plain(("a",), *[(T, ((1, at), (2, (at + 3) % 4))) for at in (2, 0, 3, 1)], lists=(None,) * 4)
        self.check(with_facts(), slow.renumbered(ring), slow.renumbered(turned), True)

    def test_ways_into_cases(self):
        # A path of three goes into a ring of one; told classes may not move.
        loop = distinct(plain((0,), (T, ((1, 0), (2, 0))), lists=(None,)))
        path = distinct(plain((0,), (T, ((1, 0), (2, 1))), (T, ((1, 1), (2, 2))), lists=NONE3))
        both = distinct(plain((0,), (T, ((1, 0), (2, 0))), (T, ((1, 0), (2, 1))), (T, ((1, 1), (2, 2))), lists=NONE3))
        self.check(with_facts(), loop, path, False)
        self.check(with_facts(), loop, both, True)
        self.check(with_facts(), path, both, False)
        self.check(with_facts(("t", key("x"))), loop, distinct(plain((0,), (T, ((1, 0), (2, 0))), (T, ((1, 0),)), lists=(None,))), True)

    def test_ways_that_end_nowhere(self):
        def rows_of(*pairs):
            ends = [end for pair in pairs for end in pair]
            rows = [(T, tuple([(column, end) for column, end in zip((1, 2), pair) if ends.count(end) > 1])) for pair in pairs]
            return slow.renumbered(distinct(plain(("a",), *rows, lists=(None,) * (max(ends) + 1))))

        rings = {size: [(at, (at + 1) % size) for at in range(size)] for size in (1, 2, 3, 4)}
        for size in rings:
            for many in (2, 3, 4):
                self.check(with_facts(), rows_of(*rings[size]), rows_of(*[(at, at + 1) for at in range(many)]), False)
        # A ring goes into a ring whose length divides its own, whatever of it is led first.
        for size, other in itertools.combinations(rings, 2):
            self.check(with_facts(), rows_of(*rings[size]), rows_of(*rings[other]), False)
            if size + other <= 4:
                both = rings[size] + [(one + size, two + size) for one, two in rings[other]]
                for order in itertools.permutations(both):
                    self.check(with_facts(), rows_of(*rings[size]), rows_of(*order), True)
                    self.check(with_facts(), rows_of(*rings[other]), rows_of(*order), False)

    def test_by_name(self):
        one = plain((0,), (V, ((9, 0),)), lists=(None,))
        self.assertIs(alike(by=[], two=distinct(one), one=one, catalog=with_facts(("v", key("x")))), False)
        self.assertIs(alike(two=distinct(one), one=one, catalog=with_facts(("v", key("x")))), True)


class WorldsTest(unittest.TestCase):
    def test_plans_are_alike_if_and_only_if_no_data_part_them(self):
        seen = {}
        for seed in range(80):
            source = random.Random(seed)
            catalog = worlds.make_table_catalog(source)
            for _ in range(5):
                one, two = worlds.make_pair(source, catalog)
                by = source.choice([None, None, [], worlds.closed_facts(source, catalog)])
                cases = [case for plan in (one, two) for case in cases_of(catalog, slow.doubled(plan), by)]
                if len(cases) <= 8 and max([len(case[1]) for case in cases], default=0) <= 6:
                    self.compare(catalog, one, two, by, seen)
        for word in [(same, left, right) for same in (True, False) for left in (True, False) for right in (True, False)]:
            self.assertGreater(seen.get(word, 0), 3, (word, seen))
        self.assertTrue(seen["once", True] > 10 and seen["once", False] > 50, seen)

    def compare(self, catalog, one, two, by, seen):
        facts = worlds.facts_in(catalog) if by is None else by
        keyed = {number for number, fact in facts if fact[0] == "key"}
        datas = []
        for plan in (one, two):
            for case in cases_of(catalog, plan, by) + cases_of(catalog, slow.doubled(plan), by):
                for data in slow.images(catalog, case, 12):
                    datas += [data, slow.doubled_rows(data, keyed)]
        datas = [data for data in datas if slow.keeps(catalog, data, facts) and slow.work(one, data) + slow.work(two, data) < 600]
        same = alike(catalog, one, two, by)
        seen[same, one[0], two[0]] = seen.get((same, one[0], two[0]), 0) + 1
        self.assertIs(slow.parting(catalog, one, two, datas) is None, same, (one, two, facts))
        once = tells_once(catalog, one, by)
        several = [data for data in datas if max(slow.answers(catalog, one, data, True).values(), default=0) > 1]
        self.assertIs(once, one[0] or not several, (one, facts))
        seen["once", once] = seen.get(("once", once), 0) + (not one[0])
