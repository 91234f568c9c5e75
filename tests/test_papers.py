"""[34]: papers that two plans are alike."""

import copy
import itertools
import random
import unittest

from boundonce.cases import cases_of
from boundonce.leaning import lean_plan
from boundonce.likeness import alike, tells_once
from boundonce.papers import is_paper, paper_for
from tests import checking, samples, slow, worlds
from tests.test_cases import key, ref, with_facts
from tests.test_likeness import NONE2, NONE3, T, U, V, distinct, plain

F = 10


class PaperCase(unittest.TestCase):
    def check_paper(self, catalog, one, two):
        """There is a paper if and only if the plans are alike, and it is one; the paper is returned."""
        before = copy.deepcopy((one, two))
        paper = paper_for(catalog, one, two)
        self.assertIs(paper is not None, alike(catalog, one, two))
        if paper is not None:
            self.assertIs(checking.is_paper(catalog, one, two, paper), True, paper)
            self.check_thing(catalog, one, two, paper)
            self.assertEqual(lists_in(paper), len(set(map(id, all_lists(paper)))))
        self.assertEqual((one, two), before)
        return paper

    def check_thing(self, catalog, one, two, thing):
        """It is seen rightly whether a thing is a paper."""
        before = copy.deepcopy(thing) if isinstance(thing, tuple) else None
        right = checking.is_paper(catalog, one, two, thing)
        self.assertIs(is_paper(catalog, one, two, thing), right, samples.shown(thing))
        if before is not None:
            self.assertEqual(thing, before)
        return right

    def check_wrong(self, catalog, one, two, *things):
        for thing in things:
            self.assertIs(checking.is_paper(catalog, one, two, thing), False, samples.shown(thing))
            self.assertIs(is_paper(catalog, one, two, thing), False, samples.shown(thing))

    def check_right(self, catalog, one, two, *things):
        for thing in things:
            self.assertIs(checking.is_paper(catalog, one, two, thing), True, samples.shown(thing))
            self.assertIs(is_paper(catalog, one, two, thing), True, samples.shown(thing))


def all_lists(thing):
    """Return all lists within a thing."""
    found = [thing] if isinstance(thing, list) else []
    for part in thing if isinstance(thing, (list, tuple)) else ():
        found += all_lists(part)
    return found


def lists_in(thing):
    return len(all_lists(thing))


class CasesTest(PaperCase):
    """Papers of plans of which neither is distinct."""

    def setUp(self):
        self.catalog = with_facts(("u", key("y")), ("t", ref("x", "u", "y")))
        self.one = plain((0, ("call", F, (1,))), (T, ((1, 0), (2, 1))), (U, ((6, 0),)), (V, ((9, 2),)), lists=(None, None, ("a", "b")))
        self.two = plain((0, ("call", F, (1,))), (V, ((9, 2),)), (T, ((1, 0), (2, 1))), lists=(None, None, ("a", "b")))

    def paper(self):
        ones, twos = cases_of(self.catalog, self.one), cases_of(self.catalog, self.two)
        paper = self.check_paper(self.catalog, self.one, self.two)
        self.assertEqual(paper[0], "cases")
        self.assertEqual([len(part) for part in paper[1:]], [2, 2, 2])
        self.assertTrue(checking.are_cases(self.catalog, self.one, paper[1]) and checking.are_cases(self.catalog, self.two, paper[2]))
        self.assertEqual([len(ones), len(twos)], [2, 2])
        return paper

    def test_none_for_plans_that_are_not_alike(self):
        for other in (plain((0,), (V, ((9, 0),)), lists=(None,)), distinct(self.one)):
            self.assertIsNone(self.check_paper(self.catalog, self.one, other))
            self.assertIsNone(self.check_paper(self.catalog, other, self.one))
            self.check_wrong(self.catalog, self.one, other, self.paper(), ("once", self.paper()), None, ("cases", [], [], []))

    def test_other_orders_and_numbers(self):
        _, ones, twos, pairs = self.paper()
        catalog, one, two = self.catalog, self.one, self.two
        self.check_right(catalog, one, two, ("cases", ones, twos, pairs[::-1]))
        swapped = [(1 - at, other, rows) for at, other, rows in pairs]
        self.check_right(catalog, one, two, ("cases", ones[::-1], twos, swapped))
        self.check_wrong(catalog, one, two, ("cases", ones, twos, swapped))
        for order in itertools.permutations(range(3)):
            for numbers in itertools.permutations(range(checking.count_of(ones[0])), checking.count_of(ones[0])):
                if random.Random(repr((order, numbers))).random() < 0.02:
                    other = checking.turned(ones[0], order, numbers)
                    at, there, rows = pairs[[pair[0] for pair in pairs].index(0)]
                    rest = [pair for pair in pairs if pair[0] != 0]
                    self.check_right(catalog, one, two, ("cases", [other, ones[1]], twos, [(at, there, [rows[place] for place in order])] + rest))
        self.check_right(catalog, two, one, ("cases", twos, ones, [(there, at, [rows.index(place) for place in range(3)]) for at, there, rows in pairs]))

    def test_indexes(self):
        head, ones, twos, pairs = self.paper()
        catalog, one, two = self.catalog, self.one, self.two
        at, there, rows = pairs[0]
        wrong = [[], pairs[:1], pairs + pairs, pairs + pairs[:1], pairs[:1] * 2, tuple(pairs), [list(pair) for pair in pairs], None]
        wrong += [[(at, 1 - there, rows), pairs[1]], [(1 - at, there, rows), pairs[1]], [(at, there, rows), (at, 1 - there, pairs[1][2])]]
        wrong += [[(at + 2, there, rows), pairs[1]], [(at - 2, there, rows), pairs[1]], [(at, there - 2, rows), pairs[1]], [(bool(at), there, rows), pairs[1]], [(at, bool(there), rows), pairs[1]]]
        for other in itertools.product(range(-1, 4), repeat=3):
            if list(other) != rows:
                wrong.append([(at, there, list(other)), pairs[1]])
        wrong += [[(at, there, other), pairs[1]] for other in (tuple(rows), rows[:2], rows + [3], [], None, [place == 1 for place in rows], [bool(place) if place < 2 else place for place in rows], "012")]
        wrong += [[(at, there, rows, rows), pairs[1]], [(at, there), pairs[1]]]
        for thing in wrong:
            self.check_wrong(catalog, one, two, (head, ones, twos, thing))
        self.check_wrong(catalog, one, two, (head, ones, twos), (head, ones, twos, pairs, pairs), [head, ones, twos, pairs], ("ways", ones, twos, pairs), ("once", self.paper()), (True, ones, twos, pairs))

    def test_cases_that_are_not_those(self):
        head, ones, twos, pairs = self.paper()
        catalog, one, two = self.catalog, self.one, self.two
        told, rows = ones[0]
        others = [(told, rows[:2]), (told, rows + rows[:1]), (told, list(rows)), (list(told), rows), [told, rows], (told, rows, rows), (told,), (told[::-1], rows), (told[:1], rows), (told + told, rows), None]
        others += [(told, ((row[0], row[1][::-1]),) + rows[1:]) for row in rows[:1]]
        others += [(told, (change(rows[0]),) + rows[1:]) for change in (lambda row: (row[0], list(row[1])), list, lambda row: (V,) + row[1:], lambda row: (1,) + row[1:], lambda row: (False,) + row[1:], lambda row: row + row,
                   lambda row: (row[0], row[1][:-1]), lambda row: (row[0], row[1] + row[1][:1]))]
        numbers = list(range(checking.count_of(ones[0])))
        for shift in ([number + 1 for number in numbers], [number - 1 for number in numbers], [0] * len(numbers), [bool(number) if number < 2 else number for number in numbers], numbers[:-1] + [40], numbers[:-1] + ["a"]):
            others.append(checking.turned(ones[0], range(3), shift))
        for other in others:
            self.check_wrong(catalog, one, two, (head, [other, ones[1]], twos, pairs), (head, ones, [other, twos[1]], pairs))
        self.check_wrong(catalog, one, two, (head, ones * 2, twos * 2, pairs), (head, ones[:1] * 2, twos[:1] * 2, pairs), (head, ones, twos[:1], pairs[:1]), (head, tuple(ones), twos, pairs), (head, ones, tuple(twos), pairs), (head, twos, ones, pairs), (head, [], [], []))

    def test_classes_lead_one_for_one(self):
        catalog = with_facts()
        one = plain(("c",), (T, ((1, 0), (2, 1))), (T, ((1, 1), (2, 2))), lists=NONE3)
        two = plain(("c",), (T, ((1, 0), (2, 1))), (T, ((1, 1), (2, 2))), lists=NONE3)
        one, two = slow.renumbered(plain(("c",), (T, ((2, 0),)), (T, ((1, 0),)), lists=(None,))), slow.renumbered(plain(("c",), (T, ((1, 0),)), (T, ((2, 0),)), lists=(None,)))
        _, ones, twos, pairs = self.check_paper(catalog, one, two)
        self.assertEqual(pairs, [(0, 0, [1, 0])])
        self.check_wrong(catalog, one, two, ("cases", ones, twos, [(0, 0, [0, 1])]))
        # Two rows with nothing in common lead to each other either way; two of which one is told do not.
        for told, either in [(("c",), True), ((0,), False)]:
            one = plain(told, (V, ((9, 0),) if told == (0,) else ()), (V, ()), lists=(None,) if told == (0,) else ())
            _, ones, twos, pairs = self.check_paper(catalog, one, one)
            self.check_right(catalog, one, one, ("cases", ones, twos, [(0, 0, pairs[0][2])]))
            thing = ("cases", ones, twos, [(0, 0, pairs[0][2][::-1])])
            self.assertIs(self.check_thing(catalog, one, one, thing), either)

    def test_values_lead_to_themselves(self):
        catalog = with_facts(("v", ("in", "x", ("a", "b"))))
        one = plain((0,), (V, ((9, 0),)), (V, ()), lists=(None,))
        paper = self.check_paper(catalog, one, one)
        self.assertEqual(len(paper[1]), 4)
        for rows in itertools.permutations(range(4)):
            pairs = [(at, other, [0, 1]) for at, other in enumerate(rows)]
            right = all([checking.best_form(paper[1][at]) == checking.best_form(paper[2][other]) for at, other in enumerate(rows)])
            self.assertIs(self.check_thing(catalog, one, one, ("cases", paper[1], paper[2], pairs)), right)

    def test_told_leads_to_told(self):
        # Of V with a and b one tells the first, the other one the second: the rows are the same, but not what is told.
        catalog = with_facts()
        one = plain((0,), (V, ((9, 0),)), (V, ((9, 1),)), lists=(("a", "b"), ("a", "b")))
        _, ones, twos, _ = self.check_paper(catalog, one, one)
        right = 0
        for order in itertools.permutations(range(4)):
            for turns in itertools.product(([0, 1], [1, 0]), repeat=4):
                pairs = [(at, other, list(turn)) for at, (other, turn) in enumerate(zip(order, turns))]
                right += self.check_thing(catalog, one, one, ("cases", ones, twos, pairs))
        self.assertEqual(right, 4)
        # Plans that tell other values, with all else as it should be.
        one, two = plain(("a",), (V, ())), plain(("b",), (V, ()))
        cases = [cases_of(catalog, one), cases_of(catalog, two)]
        self.check_wrong(catalog, one, two, ("cases", *cases, [(0, 0, [0])]))
        self.check_wrong(catalog, distinct(one), distinct(two), ("ways", *cases, [[0]], [[0]]))
        self.check_wrong(with_facts(("v", key("x")), ("v", ("in", "x", ("a",)))), distinct(one), two, ("once", ("ways", *cases, [[0]], [[0]])))

    def test_rows_lead_to_rows_of_the_same_table_one_for_one(self):
        catalog = with_facts()
        one = plain((0, 1, 2), (T, ((1, 0), (2, 1), (3, 2))), (U, ((5, 0), (6, 1), (7, 2))), lists=NONE3)
        head, ones, twos, pairs = self.check_paper(catalog, one, one)
        self.assertEqual(pairs, [(0, 0, [0, 1])])
        self.check_wrong(catalog, one, one, (head, ones, twos, [(0, 0, [1, 0])]))
        ways = self.check_paper(catalog, distinct(one), distinct(one))
        self.check_wrong(catalog, distinct(one), distinct(one), ("ways", ones, twos, [[1, 0]], ways[4]), ("ways", ones, twos, ways[3], [[1, 0]]))
        one = plain(("c",), (V, ((9, "a"),)), (V, ((9, "a"),)))
        _, ones, twos, _ = self.check_paper(catalog, one, one)
        self.check_right(catalog, one, one, *[("cases", ones, twos, [(0, 0, rows)]) for rows in ([0, 1], [1, 0])])
        self.check_wrong(catalog, one, one, *[("cases", ones, twos, [(0, 0, rows)]) for rows in ([0, 0], [1, 1])])

    def test_what_leads_only_one_way(self):
        # Rows with a class each lead to rows with one class or with a value, but not back.
        catalog = with_facts()
        many, one, value = [plain(("c",), *[(V, ((9, term),) if term is not None else ()) for term in terms], lists=lists) for terms, lists in [((None, None), ()), ((0, 0), (None,)), (("a", "a"), ())]]
        for first, second in itertools.permutations([many, one, value], 2):
            self.assertIsNone(self.check_paper(catalog, first, second))
            cases = [cases_of(catalog, first), cases_of(catalog, second)]
            self.check_wrong(catalog, first, second, *[("cases", *cases, [(0, 0, rows)]) for rows in ([0, 1], [1, 0], [0, 0])])
        told = [slow.renumbered(plain((term, 0), (V, ((9, 0),)), lists=(None,))) for term in (0, "a", ("call", F, (0,)), ("call", F, ("a",)))]
        for first, second in itertools.permutations(told, 2):
            cases = [cases_of(catalog, first), cases_of(catalog, second)]
            self.check_wrong(catalog, first, second, ("cases", *cases, [(0, 0, [0])]))
            self.check_wrong(catalog, distinct(first), distinct(second), ("ways", *cases, [[0]], [[0]]))

    def test_rows_that_are_equal(self):
        rows = [(V, ((9, "a"),))] * 3 + [(T, ((1, 0),))]
        for order in itertools.permutations(range(4)):
            self.check_paper(with_facts(), plain((0,), *rows, lists=(None,)), plain((0,), *[rows[at] for at in order], lists=(None,)))

    def test_cases_that_are_the_same_are_paired_once_each(self):
        catalog = with_facts(("v", key("x")))
        one = plain(("c",), (V, ((9, "a"),)), (V, ((9, "b"),)), (V, ((9, 0),)), lists=(("a", "b"),))
        _, ones, twos, pairs = self.check_paper(catalog, one, one)
        self.assertEqual([len(ones), len(pairs)], [2, 2])
        self.assertEqual(checking.best_form(ones[0]), checking.best_form(ones[1]))
        rows = {(at, other): [[row[1][0] for row in twos[other][1]].index(row[1][0]) for row in ones[at][1]] for at in range(2) for other in range(2)}
        for size in (1, 2, 3):
            for places in itertools.product(rows, repeat=size):
                thing = ("cases", ones, twos, [(at, other, rows[at, other]) for at, other in places])
                right = sorted([at for at, _ in places]) == [0, 1] and sorted([other for _, other in places]) == [0, 1]
                self.assertIs(self.check_thing(catalog, one, one, thing), right)

    def test_no_cases(self):
        one, two = plain((0,), (V, ((9, 0),)), lists=((),)), plain(("a", "b"), (T, ((1, 0),)), lists=((),))
        self.assertEqual(self.check_paper(with_facts(), one, two), ("cases", [], [], []))
        self.check_wrong(with_facts(), one, two, ("cases", [], [], [[]]), ("cases", [], [], ()), ("cases", (), [], []), ("ways", [], [], [], []))
        self.assertEqual(self.check_paper(with_facts(), distinct(one), two), ("once", ("ways", [], [], [], [])))
        self.check_wrong(with_facts(), distinct(one), two, ("ways", [], [], [], []), ("once", ("cases", [], [], [])))


class WaysTest(PaperCase):
    """Papers of plans that are distinct, and of plans of which one is."""

    def setUp(self):
        self.catalog = with_facts(("v", key("x")))
        rows = [(T, ((1, 0), (2, 1))), (T, ((1, 1), (2, 2))), (V, ((9, 2),))]
        self.one = distinct(slow.renumbered(plain((0,), *rows, lists=(None, None, ("a", "b")))))
        self.two = distinct(slow.renumbered(plain((0,), rows[2], *rows[:2], (T, ((1, 0),)), lists=(None, None, ("a", "b")))))

    def test_indexes(self):
        catalog, one, two = self.catalog, self.one, self.two
        paper = self.check_paper(catalog, one, two)
        head, ones, twos, forth, back = paper
        self.assertEqual([head, len(ones), len(twos), len(forth), len(back)], ["ways", 2, 2, 2, 2])
        self.assertEqual([[len(way) for way in forth], [len(way) for way in back]], [[4, 4], [3, 3]])
        for way in itertools.product(range(-1, 4), repeat=4):
            self.check_thing(catalog, one, two, (head, ones, twos, [list(way), forth[1]], back))
        for way in itertools.product(range(4), repeat=3):
            self.check_thing(catalog, one, two, (head, ones, twos, forth, [list(way), back[1]]))
        wrong = [[], forth[:1], forth + forth[:1], tuple(forth), [tuple(way) for way in forth], None, [forth[0][:3], forth[1]], [forth[0] + [0], forth[1]], [[bool(at) if at < 2 else at for at in forth[0]], forth[1]], back]
        self.check_wrong(catalog, one, two, *[(head, ones, twos, thing, back) for thing in wrong])
        wrong = [[], back[:1], back + back[:1], tuple(back), [tuple(way) for way in back], None, [back[0][:2], back[1]], [back[0] + [0], back[1]], [[bool(at) if at < 2 else at for at in back[0]], back[1]], forth]
        self.check_wrong(catalog, one, two, *[(head, ones, twos, forth, thing) for thing in wrong])
        self.check_wrong(catalog, one, two, list(paper), paper[:4], paper + ([],), ("cases",) + paper[1:], ("once", paper), (None,) + paper[1:], (head, twos, ones, forth, back), (head, tuple(ones), twos, forth, back))
        self.check_wrong(catalog, two, one, paper)
        self.check_right(catalog, two, one, (head, twos, ones, back, forth))

    def test_the_order_of_cases(self):
        catalog, one, two = self.catalog, self.one, self.two
        head, ones, twos, forth, back = self.check_paper(catalog, one, two)
        self.check_right(catalog, one, two, (head, ones[::-1], twos, forth[::-1], back), (head, ones, twos[::-1], forth, back[::-1]))
        self.check_thing(catalog, one, two, (head, ones[::-1], twos, forth, back))
        size = len(ones[0][1])
        for order in itertools.permutations(range(size)):
            numbers = list(range(checking.count_of(ones[0])))[::-1]
            other = checking.turned(ones[0], order, numbers)
            way = [order.index(at) for at in forth[0]]
            self.check_right(catalog, one, two, (head, [other, ones[1]], twos, [way, forth[1]], back))
            self.check_thing(catalog, one, two, (head, [other, ones[1]], twos, forth, back))
        self.check_wrong(catalog, one, two, (head, ones[:1], twos, forth[:1], back), (head, ones, ones, forth, back), (head, [], [], [], []))

    def test_classes_with_lists_stand_for_values_of_them(self):
        catalog = with_facts()
        one, two = distinct(plain((0,), (V, ((9, 0),)), lists=(("a", "b"),))), distinct(plain((0,), (V, ((9, 0),)), lists=(("a", "b", "c"),)))
        self.assertIsNone(self.check_paper(catalog, one, two))
        ones, twos = cases_of(catalog, one), cases_of(catalog, two)
        self.check_wrong(catalog, one, two, ("ways", ones, twos, [[0], [0]], [[0], [0], [0]]))
        value = distinct(plain(("a",), (V, ((9, "a"),))))
        self.check_wrong(catalog, one, value, ("ways", ones, cases_of(catalog, value), [[0], [0]], [[0]]))
        self.check_wrong(catalog, value, value, ("ways", ones, ones, [[0], [0]], [[0], [0]]))
        self.assertEqual(self.check_paper(catalog, value, value)[3:], ([[0]], [[0]]))

    def test_once(self):
        catalog = with_facts(("t", key("x")))
        one = plain((0,), (T, ((1, 0),)), lists=(None,))
        for first, second in [(one, distinct(one)), (distinct(one), one)]:
            paper = self.check_paper(catalog, first, second)
            self.assertEqual([paper[0], len(paper), paper[1][0]], ["once", 2, "ways"])
            self.check_wrong(catalog, first, second, paper[1], list(paper), paper + paper[1:], ("ways", paper[1]), ("once",), ("once", paper), ("once", None), ("once", list(paper[1])))
            self.check_wrong(catalog, one, one, paper, paper[1])
            self.check_wrong(catalog, distinct(one), distinct(one), paper)
            self.check_right(catalog, distinct(one), distinct(one), paper[1])
        # The ways are there, but rows are told more than once.
        self.assertIsNone(self.check_paper(with_facts(), one, distinct(one)))
        ways = self.check_paper(with_facts(), distinct(one), distinct(one))
        self.check_wrong(with_facts(), one, distinct(one), ("once", ways))
        self.check_wrong(with_facts(), distinct(one), one, ("once", ways))
        # It matters of the plan that is not distinct alone whether it tells each row once.
        more = plain((0,), (T, ((1, 0),)), (T, ()), lists=(None,))
        self.assertEqual([tells_once(catalog, one), tells_once(catalog, more)], [True, False])
        for first, second, there in [(one, distinct(more), True), (distinct(more), one, True), (more, distinct(one), False), (distinct(one), more, False)]:
            self.assertIs(self.check_paper(catalog, first, second) is not None, there)
            ways = paper_for(catalog, distinct(first), distinct(second))
            self.assertIs(self.check_thing(catalog, first, second, ("once", ways)), there)
        # Each row is told once, but the ways are not there.
        other = distinct(plain((0,), (T, ((1, 0),)), (V, ()), lists=(None,)))
        self.assertIsNone(self.check_paper(catalog, one, other))

    def test_the_order_of_the_two_plans(self):
        catalog = with_facts(("t", key("x")), ("v", key("x")))
        one, two = plain((0,), (T, ((1, 0),)), lists=(None,)), distinct(plain((0,), (T, ((1, 0), (2, 1))), (T, ((1, 0), (2, 1))), lists=NONE2))
        paper = self.check_paper(catalog, one, two)
        self.assertEqual([[len(way) for way in part] for part in paper[1][3:]], [[2], [1]])
        turned = ("once", ("ways", paper[1][2], paper[1][1], paper[1][4], paper[1][3]))
        self.check_right(catalog, two, one, turned)
        self.check_wrong(catalog, two, one, paper)
        self.check_wrong(catalog, one, two, turned)


class AnyTest(PaperCase):
    def test_any_objects(self):
        one = plain((0,), (T, ((1, 0),)), lists=(None,))
        catalog = with_facts(("t", key("x")))
        for pair in [(one, one), (distinct(one), distinct(one)), (one, distinct(one)), (distinct(one), one)]:
            paper = paper_for(catalog, *pair)
            for thing in samples.any_objects() + samples.very_large_objects() + [catalog, one, pair]:
                self.check_wrong(catalog, *pair, thing)
                for word in ("cases", "ways", "once"):
                    self.check_wrong(catalog, *pair, (word, thing), (word, thing, thing, thing), (word, thing, thing, thing, thing))
            for thing in samples.variants(paper):
                self.check_thing(catalog, *pair, thing)
            self.assertIs(is_paper(thing=paper, two=pair[1], one=pair[0], catalog=catalog), True)
            self.assertEqual(paper_for(two=pair[1], one=pair[0], catalog=catalog), paper)

    def test_large_objects_in_place_of_parts(self):
        one = plain((0, ("call", F, (0,))), (T, ((1, 0),)), lists=(None,))
        paper = paper_for(with_facts(), one, one)
        for thing in samples.very_large_objects():
            for case in [(thing, paper[1][0][1]), (paper[1][0][0], thing), ((thing,), paper[1][0][1]), (paper[1][0][0], (thing,)), (paper[1][0][0], ((0, thing),)), (paper[1][0][0], ((0, (0, 1, thing)),)), ((0, ("call", F, (thing,))), paper[1][0][1])]:
                self.assertIs(is_paper(with_facts(), one, one, ("cases", [case], paper[2], paper[3])), False)

    def test_what_is_returned_is_new(self):
        one = plain((0,), (T, ((1, 0),)), (V, ()), lists=(None,))
        for pair in [(one, one), (distinct(one), distinct(one))]:
            first, second = [paper_for(with_facts(), *pair) for _ in range(2)]
            self.assertEqual(first, second)
            for part in all_lists(first):
                part.append(0)
            self.assertEqual(paper_for(with_facts(), *pair), second)

    def test_worlds(self):
        seen = {}
        for seed in range(150):
            source = random.Random(seed)
            catalog = worlds.make_table_catalog(source, 12)
            for _ in range(4):
                one, two = worlds.make_pair(source, catalog)
                two = source.choice([two, lean_plan(catalog, one), slow.renumbered(two[:2] + (two[2][::-1],) + two[3:])])
                cases = [case for plan in (one, two) for case in cases_of(catalog, plan)]
                if len(cases) > 8 or max([len(case[1]) for case in cases], default=0) > 5:
                    continue
                paper = self.check_paper(catalog, one, two)
                word = None if paper is None else paper[0]
                seen[word, one == two] = seen.get((word, one == two), 0) + 1
                if paper is not None:
                    for _ in range(25):
                        self.check_thing(catalog, one, two, changed(source, paper))
        self.assertTrue(min([seen.get((word, False), 0) for word in ("cases", "ways", "once", None)]) > 5, seen)


def changed(source, thing):
    """Return a thing with one part exchanged, left out, put in or made greater, at any depth."""
    if isinstance(thing, (list, tuple)) and thing and source.random() < 0.9:
        at = source.randrange(len(thing))
        kind = source.random()
        if kind < 0.7:
            middle = [changed(source, thing[at])]
        elif kind < 0.8:
            middle = []
        elif kind < 0.9:
            middle = [thing[at], thing[at]]
        else:
            return thing[::-1] if source.random() < 0.7 else (list if isinstance(thing, tuple) else tuple)(thing)
        return thing[:at] + type(thing)(middle) + thing[at + 1:]
    if type(thing) is int and source.random() < 0.6:
        return thing + source.choice([1, -1])
    return source.choice(samples.EXCHANGED_FOR + [2, 3])
