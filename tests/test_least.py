"""[18] and [35]: data with as few rows as possible on which two plans part."""

import copy
import itertools
import random
import unittest

from boundonce.cases import cases_of
from boundonce.catalogs import Catalog
from boundonce.data import is_data
from boundonce.deeds import after_deed, after_deeds
from boundonce.least import fewest_rows, is_parting_data, parting_data
from boundonce.likeness import alike
from tests import checking, samples, slow, worlds
from tests.test_cases import key, ref, with_facts
from tests.test_data import empty
from tests.test_likeness import NONE2, NONE3, T, U, V, distinct, plain

F, G = 10, 11
ONLY_V = plain((0,), (V, ((9, 0),)), lists=(None,))


class LeastCase(unittest.TestCase):
    def check(self, catalog, one, two, rows):
        """The least data on which two plans part have so many rows; None if they are alike."""
        before = copy.deepcopy((one, two))
        for first, second in [(one, two), (two, one)]:
            data = parting_data(catalog, first, second)
            many = fewest_rows(catalog, first, second)
            self.assertEqual(many, rows, (first, second, data))
            self.assertIs(data is None, alike(catalog, first, second))
            if data is None:
                self.assertIsNone(many)
                continue
            self.assertIs(type(many), int)
            self.assertEqual(sum(map(len, data.values())), many)
            self.assertTrue(checking.is_data(catalog, data), data)
            self.assertTrue(checking.parts(catalog, first, second, data), data)
            self.assertIs(is_parting_data(catalog, first, second, data), True)
        self.assertEqual((one, two), before)
        return parting_data(catalog, one, two)


class PartingTest(LeastCase):
    def test_plans_that_are_alike(self):
        catalog = with_facts(("u", key("y")), ("t", ref("x", "u", "y")))
        one = plain((0,), (T, ((1, 0),)), lists=(None,))
        self.check(catalog, one, one, None)
        self.check(catalog, one, plain((0,), (T, ((1, 0),)), (U, ((6, 0),)), lists=(None,)), None)
        self.check(with_facts(), distinct(ONLY_V), distinct(plain((0,), (V, ((9, 0),)), (V, ()), lists=(None,))), None)
        self.check(with_facts(("v", key("x"))), ONLY_V, distinct(ONLY_V), None)
        self.check(with_facts(), plain((0,), (V, ((9, 0),)), lists=((),)), plain(("c",), (T, ((1, 0),)), lists=((),)), None)

    def test_one_row(self):
        self.assertEqual(sorted(self.check(with_facts(), ONLY_V, plain(("a",), (V, ())), 1)), [T, U, V])
        self.check(with_facts(), ONLY_V, plain((0, 0), (V, ((9, 0),)), lists=(None,)), 1)
        self.check(with_facts(), ONLY_V, plain((0,), (V, ((9, 0),)), lists=(("a", "b"),)), 1)
        self.check(with_facts(), ONLY_V, plain((0,), (V, ((9, 0),)), lists=((),)), 1)
        self.check(with_facts(), ONLY_V, plain((0,), (T, ((1, 0),)), lists=(None,)), 1)
        self.check(with_facts(), plain(("b",), (V, ((9, "b"),))), plain(("b",), (V, ())), 1)
        self.check(with_facts(), distinct(ONLY_V), plain((0,), (V, ((9, 0),)), lists=(("a", "b"),)), 1)
        self.check(with_facts(), plain((0,), (T, ((1, 0), (2, 0))), lists=(None,)), plain((0,), (T, ((1, 0),)), lists=(None,)), 1)

    def test_more_rows(self):
        self.check(with_facts(), ONLY_V, distinct(ONLY_V), 2)
        twice, thrice = [plain(("c",), *[(V, ())] * many) for many in (2, 3)]
        self.check(with_facts(), plain(("c",), (V, ())), twice, 2)
        self.check(with_facts(), twice, thrice, 2)
        self.check(with_facts(), twice, plain(("c",), (V, ((9, 0),)), (V, ((9, 0),)), lists=(None,)), 2)
        self.check(with_facts(), plain((0,), (T, ((1, 0),)), (V, ()), lists=(None,)), plain((0,), (T, ((1, 0),)), (V, ()), (V, ()), lists=(None,)), 3)
        self.check(with_facts(), plain((0,), (T, ((1, 0),)), (V, ()), (U, ()), lists=(None,)), plain((0,), (T, ((1, 0),)), (V, ()), (U, ()), (U, ()), lists=(None,)), 4)

    def test_rings_and_paths(self):
        def ring(size):
            return plain(("c",), *[(T, ((1, at), (2, (at + 1) % size))) for at in range(size)], lists=(None,) * size)

        # A ring is told where there is one whose length divides its own.
        for (one, two), rows in {(1, 2): 2, (1, 3): 3, (1, 4): 2, (2, 3): 2, (2, 4): 4, (3, 4): 2}.items():
            self.check(with_facts(), distinct(slow.renumbered(ring(one))), distinct(slow.renumbered(ring(two))), rows)
        path = slow.renumbered(plain(("c",), (T, ((1, 0), (2, 1))), (T, ((1, 1),)), lists=NONE2))
        self.check(with_facts(), distinct(path), distinct(slow.renumbered(ring(2))), 2)
        self.check(with_facts(("t", key("x"))), path, distinct(path), 2)

    def test_in_the_flat_meaning_alone(self):
        catalog = with_facts(("v", key("x")))
        one = plain((("call", F, (0,)),), (V, ((9, 0),)), lists=(None,))
        data = self.check(catalog, one, distinct(one), 2)
        self.assertEqual(slow.answers(catalog, one, data), slow.answers(catalog, distinct(one), data))
        self.assertNotEqual(slow.answers(catalog, one, data, True), slow.answers(catalog, distinct(one), data, True))
        self.assertIs(is_parting_data(catalog, one, distinct(one), {**empty(), V: [("a",), ("b",)]}), True)
        self.assertIs(is_parting_data(catalog, one, distinct(one), {**empty(), V: [("a",)]}), False)

    def test_in_the_plain_meaning_alone(self):
        terms = [("call", F, (0,)), ("call", F, (("call", F, (0,)),)), ("call", F, ("a",)), ("call", G, (0, "a")), ("call", G, (0, 0))]
        for one, two in itertools.combinations(terms, 2):
            plans = [slow.renumbered(plain((term, 0), (V, ((9, 0),)), lists=(None,))) for term in (one, two)]
            data = self.check(with_facts(), *plans, 1)
            self.assertEqual(slow.answers(with_facts(), plans[0], data, True), slow.answers(with_facts(), plans[1], data, True))
            self.check(with_facts(), *map(distinct, plans), 1)

    def test_just_one_is_distinct(self):
        catalog = with_facts(("t", key("x y")))
        one = plain((0,), (T, ((1, 0),)), lists=(None,))
        data = self.check(catalog, one, distinct(one), 2)
        self.assertEqual(len({row[0] for row in data[T]}), 1)
        self.check(catalog, plain((0, 1), (T, ((1, 0), (2, 1))), lists=NONE2), distinct(plain((0, 1), (T, ((1, 0), (2, 1))), lists=NONE2)), None)
        self.check(catalog, one, distinct(plain((0,), (T, ((1, 0),)), (V, ()), lists=(None,))), 1)
        # Each row is told once, but something else is.
        self.check(catalog, plain((0, 1), (T, ((1, 0), (2, 1))), lists=NONE2), distinct(plain((1, 0), (T, ((1, 1), (2, 0))), lists=NONE2)[:1] + ((0, 1), ((T, ((1, 1), (2, 0))),), NONE2)), 1)
        # A row of the doubled plan refers to one that both share.
        catalog = with_facts(("u", key("x")), ("t", ref("z", "u", "x")))
        self.check(catalog, plain((0,), (T, ((3, 0),)), lists=(None,)), distinct(plain((0,), (T, ((3, 0),)), lists=(None,))), 3)

    def test_keys_with_references_to_them(self):
        catalog = with_facts(("u", key("x")), ("t", key("x")), ("t", ref("y", "u", "x")))
        one, two = plain((0,), (T, ((1, 0),)), lists=(None,)), plain((1,), (T, ((1, 1), (2, 0))), lists=NONE2)[:1] + ((0,), ((T, ((2, 0),)),), (None,))
        self.check(catalog, one, two, 2)
        self.check(catalog, one, plain((0,), (T, ((1, 0), (2, 1))), (T, ((2, 1),)), lists=NONE2), 3)
        self.check(catalog, one, plain((0,), (T, ((1, 0), (2, 1))), (U, ((5, 1),)), lists=NONE2), None)
        self.check(catalog, one, plain((0,), (T, ((1, 0),)), (U, ()), lists=(None,)), 3)
        # Both rows of t refer to one row of u, or each to its own.
        one = plain((0, 1), (T, ((1, 0), (2, 2))), (T, ((1, 1), (2, 2))), lists=NONE3)
        self.check(catalog, one, plain((0, 1), (T, ((1, 0),)), (T, ((1, 1),)), lists=NONE2), 4)

    def test_lists_of_facts(self):
        catalog = with_facts(("v", ("in", "x", ("a", "b"))))
        self.check(catalog, ONLY_V, plain((0,), (V, ((9, 0),)), lists=(("a", "b", "c"),)), None)
        self.check(catalog, ONLY_V, plain((0,), (V, ((9, 0),)), lists=(("a", "c"),)), 1)
        data = self.check(catalog, ONLY_V, plain((0,), (V, ((9, "a"),)), lists=())[:1] + (("a",), ((V, ((9, "a"),)),), ()), 1)
        self.assertEqual(data[V], [("b",)])
        catalog = with_facts(("v", ("in", "x", ("a",))), ("v", key("x")))
        self.check(catalog, plain(("a",), (V, ())), plain(("a",), (V, ()), (V, ())), None)

    def test_values_that_stand_in_plans(self):
        # The values of classes are none of those that the plans name.
        rows = (T, ((1, 0), (2, "a"), (3, "b")))
        for other in "abcdef":
            self.check(with_facts(), plain((0,), rows, lists=(None,)), plain((other,), (T, ((2, "a"), (3, "b")))), 1)
            self.check(with_facts(), plain((0,), rows, lists=(None,)), plain((0,), rows, (V, ((9, other),)), lists=(None,)), 1)
            self.check(with_facts(), plain((0,), (V, ((9, 0),)), lists=(None,)), plain((0,), (V, ((9, 0),)), (T, ((1, other),)), lists=(None,)), 1)

    def test_classes_that_are_not_told(self):
        # Ten columns in all; nine of them have no other and no fact.
        catalog = after_deed(Catalog(("text",)), ("table", "main", "wide", tuple([(letter, "text") for letter in "abcdefgh"])))
        for letter in "ij":
            catalog = after_deed(catalog, ("column", "main", "wide", letter, "text"))
        one, two = plain((0,), (0, ((1, 0),)), (0, ()), (0, ()), lists=(None,)), plain((0,), (0, ((1, 0),)), (0, ()), lists=(None,))
        self.check(catalog, one, two, 2)
        self.check(catalog, one, distinct(two), 2)
        self.check(after_deed(catalog, ("fact", "main", "wide", ("key", ("a",)))), one, two, 2)

    def test_by_name_and_new(self):
        named = {"two": distinct(ONLY_V), "one": ONLY_V, "catalog": with_facts()}
        data = parting_data(**named)
        self.assertEqual([fewest_rows(**named), is_parting_data(thing=data, **named)], [2, True])
        data[V].append(("q",))
        data.clear()
        self.check(with_facts(), ONLY_V, distinct(ONLY_V), 2)


class IsPartingTest(unittest.TestCase):
    def check(self, catalog, one, two, thing):
        right = checking.is_data(catalog, thing) and checking.parts(catalog, one, two, thing)
        self.assertIs(is_parting_data(catalog, one, two, thing), right, samples.shown(thing))
        return right

    def test_with_however_many_rows(self):
        one, two = ONLY_V, distinct(ONLY_V)
        many = [(first + second,) for first in "abcdefghij" for second in "abcdefghij"]
        for rows, parts in [([], False), ([("a",)], False), ([("a",)] * 2, True), (many, False), (many + many[:1], True), (many * 20, True)]:
            self.assertIs(self.check(with_facts(), one, two, {**empty(t="abc abc"), V: rows}), parts)
            self.assertIs(is_parting_data(with_facts(), one, one, {**empty(), V: rows}), False)

    def test_what_is_no_data(self):
        catalog = with_facts(("v", key("x")), ("t", ref("x", "v", "x")))
        one, two = ONLY_V, plain((0,), (V, ((9, 0),)), (T, ()), lists=(None,))
        for data, right in [(empty(v="a"), True), (empty(), False), (empty(v="a", t="abc"), False), (empty(v="a b", t="abc acc"), True), (empty(v="a a"), False), (empty(v="b", t="abc"), False)]:
            self.assertIs(self.check(catalog, one, two, data), right)
        for thing in samples.any_objects() + samples.very_large_objects():
            self.assertIs(is_parting_data(catalog, one, two, thing), False)
            self.check(catalog, one, two, {**empty(), V: thing})
        for thing in [{T: [], V: [("a",)]}, {**empty(v="a"), 12: []}, {**empty(), V: [["a"]]}, {**empty(), V: (("a",),)}, [empty(v="a")]]:
            self.assertIs(is_parting_data(catalog, one, two, thing), False)

    def test_worlds(self):
        seen = {True: 0, False: 0}
        for seed in range(150):
            source = random.Random(seed)
            catalog = worlds.make_table_catalog(source, 12)
            data = worlds.make_data(source, catalog, source.choice([[], worlds.facts_in(catalog)]), 3, 60)
            for _ in range(4 if data is not None else 0):
                one, two = worlds.make_pair(source, catalog)
                seen[self.check(catalog, one, two, data)] += 1
        self.assertGreater(min(seen.values()), 80, seen)


def small_catalog(source):
    """Return any catalog of tables of one or two columns."""
    deeds = []
    for name in worlds.NAMES:
        columns = worlds.COLUMNS[:source.choice([1, 1, 2])]
        deeds.append(("table", "main", name, tuple([(column, "text") for column in columns])))
    deeds += [("function", "main", "f", ("text",), "text"), ("function", "main", "g", ("text", "text"), "text")]
    catalog = after_deeds(Catalog(("text",)), deeds)
    for _ in range(source.choice([0, 2, 6, 12])):
        fact = worlds.make_fact(source)
        if fact[0] == "ref":
            fact = fact[:2] + ("main",) + fact[3:]
        if fact[0] != "in" or source.random() < 0.4:
            catalog = worlds.tried(catalog, ("fact", "main", source.choice(worlds.NAMES), fact))
    return catalog


class WorldsTest(LeastCase):
    def test_no_fewer_rows_part(self):
        seen = {}
        for seed in range(260):
            source = random.Random(seed)
            catalog = small_catalog(source)
            for _ in range(3):
                one, two = worlds.make_pair(source, catalog)
                many = fewest_rows(catalog, one, two)
                if len(cases_of(catalog, slow.doubled(one))) + len(cases_of(catalog, slow.doubled(two))) > 64:
                    continue
                self.check(catalog, one, two, many)
                if many is not None and (many <= 2 or many == 3 and len(one[2] + two[2]) < 6):
                    self.assertIsNone(checking.fewer_rows_part(catalog, one, two, many), (seed, one, two))
                seen[many] = seen.get(many, 0) + 1
        self.assertTrue(min(seen[None], seen[1], seen[2]) > 50 and seen[3] > 10, seen)

    def test_data_that_is_told_is_data(self):
        for seed in range(60):
            source = random.Random(seed)
            catalog = worlds.make_table_catalog(source, 12)
            one, two = worlds.make_pair(source, catalog)
            if len(cases_of(catalog, slow.doubled(one))) + len(cases_of(catalog, slow.doubled(two))) < 64:
                data = parting_data(catalog, one, two)
                self.assertIs(data is None or is_data(catalog, data), True)
                self.assertIs(is_parting_data(catalog, one, two, data), not alike(catalog, one, two))
