"""[37]: legs and ends."""

import copy
import itertools
import random
import unittest

from boundonce.leaning import lean_plan
from boundonce.legs import are_ends, are_legs, ends_of, legs_of, one_leg
from boundonce.likeness import alike
from tests import checking, samples, worlds
from tests.test_cases import key, ref, with_facts
from tests.test_likeness import NONE2, T, U, V, distinct, plain

ONLY_T = plain((0,), (T, ((1, 0),)), lists=(None,))


class LegsCase(unittest.TestCase):
    def check(self, catalog, one, two, legs, ends, left=None):
        """These are the legs and the ends, and the leg that is left is this one, or the only one."""
        before = copy.deepcopy((one, two))
        for first, second in [(one, two), (two, one)]:
            self.assertEqual(legs_of(catalog, first, second), legs)
            self.assertEqual(ends_of(catalog, first, second), ends)
            self.assertEqual(one_leg(catalog, first, second), left if left is not None else legs[0] if legs else None)
            for are, right, wrong in [(are_legs, legs, ends), (are_ends, ends, legs)]:
                self.assertIs(are(catalog, first, second, copy.deepcopy(right)), True)
                self.assertIs(are(catalog, first, second, copy.deepcopy(wrong)), wrong == right)
        self.assertEqual((one, two), before)


class LegsTest(LegsCase):
    def test_plans_alike_without_any_fact(self):
        for catalog in (with_facts(), with_facts(("t", key("x")), ("u", key("y")), ("t", ref("x", "u", "y")))):
            self.check(catalog, ONLY_T, ONLY_T, [[]], [])
            self.check(catalog, distinct(ONLY_T), distinct(plain((0,), (T, ((1, 0),)), (T, ()), lists=(None,))), [[]], [])

    def test_plans_that_are_not_alike(self):
        for catalog in (with_facts(), with_facts(("t", key("y")), ("v", ("in", "x", ("a", "b"))))):
            self.check(catalog, ONLY_T, distinct(ONLY_T), [], [[]])
            self.check(catalog, ONLY_T, plain(("a",), (V, ())), [], [[]])

    def test_a_key(self):
        catalog = with_facts(("t", key("x")), ("t", key("y")), ("v", key("x")))
        pair = (T, ("key", (1,)))
        self.check(catalog, ONLY_T, distinct(ONLY_T), [[pair]], [[pair]])

    def test_one_of_two_keys(self):
        catalog = with_facts(("t", key("x")), ("t", key("x y")), ("t", key("z")))
        one = plain((0, 1), (T, ((1, 0), (2, 1))), lists=NONE2)
        first, second = (T, ("key", (1,))), (T, ("key", (1, 2)))
        # The last one is left out first.
        self.check(catalog, one, distinct(one), [[first], [second]], [[first, second]], [first])

    def test_two_facts_together(self):
        catalog = with_facts(("t", key("x y")), ("t", ("in", "y", ("a",))), ("t", ("in", "z", ("b",))))
        facts = [(T, ("in", 2, ("a",))), (T, ("key", (1, 2)))]
        self.check(catalog, ONLY_T, distinct(ONLY_T), [facts], [[facts[0]], [facts[1]]])

    def test_a_key_goes_with_the_references_to_it(self):
        catalog = with_facts(("u", key("y")), ("t", ref("x", "u", "y")), ("u", key("x")))
        reference, to = (T, ("ref", (1,), U, (6,))), (U, ("key", (6,)))
        more = plain((0,), (T, ((1, 0),)), (U, ((6, 0),)), lists=(None,))
        self.check(catalog, ONLY_T, more, [[reference, to]], [[reference], [to]])
        # As distinct plans they stand on the reference, which leads to a key, all the same.
        self.check(catalog, distinct(ONLY_T), distinct(more), [[reference, to]], [[reference], [to]])

    def test_legs_and_ends_by_facts_of_several_tables(self):
        catalog = with_facts(("u", key("y")), ("t", ref("x", "u", "y")), ("t", key("x")), ("t", key("x z")), ("v", key("x")))
        reference, to, first, second = (T, ("ref", (1,), U, (6,))), (U, ("key", (6,))), (T, ("key", (1,))), (T, ("key", (1, 3)))
        one = plain((0, 1), (T, ((1, 0), (3, 1))), lists=NONE2)
        two = distinct(plain((0, 1), (T, ((1, 0), (3, 1))), (U, ((6, 0),)), lists=NONE2))
        legs = [[first, reference, to], [second, reference, to]]
        self.check(catalog, one, two, legs, [[first, second], [reference], [to]], legs[0])
        catalog = with_facts(("v", key("x")), ("u", ref("x", "v", "x")), ("u", key("y")), ("t", ref("x", "u", "y")), ("t", ref("y", "v", "x")))
        one, two = plain((0,), (T, ((2, 0),)), lists=(None,)), plain((0,), (T, ((2, 0),)), (V, ((9, 0),)), lists=(None,))
        self.check(catalog, one, two, [[(T, ("ref", (2,), V, (9,))), (V, ("key", (9,)))]], [[(T, ("ref", (2,), V, (9,)))], [(V, ("key", (9,)))]])
        one, two = plain((0,), (T, ((1, 0),)), lists=(None,)), plain((0,), (T, ((1, 0),)), (U, ((5, 1), (6, 0))), (V, ((9, 1),)), lists=NONE2)
        leg = [(T, ("ref", (1,), U, (6,))), (U, ("key", (6,))), (U, ("ref", (5,), V, (9,))), (V, ("key", (9,)))]
        self.check(catalog, one, two, [leg], [[pair] for pair in leg])

    def test_tables_that_stand_in_no_plan(self):
        catalog = with_facts(("v", key("x")), ("u", key("y")), ("u", ref("x", "v", "x")), ("t", ref("x", "u", "y")))
        leg = [(T, ("ref", (1,), U, (6,))), (U, ("key", (6,))), (U, ("ref", (5,), V, (9,))), (V, ("key", (9,)))]
        one, two = distinct(ONLY_T), distinct(plain((0,), (T, ((1, 0),)), (V, ()), lists=(None,)))
        self.check(catalog, one, two, [leg], [[pair] for pair in leg])
        catalog = with_facts(("v", key("x")), ("v", ("in", "x", ("a",))), ("u", key("y")), ("u", ref("y", "v", "x")), ("t", ref("x", "u", "y")))
        leg = [(T, ("ref", (1,), U, (6,))), (U, ("key", (6,))), (U, ("ref", (6,), V, (9,))), (V, ("in", 9, ("a",))), (V, ("key", (9,)))]
        self.check(catalog, ONLY_T, plain(("a",), (T, ((1, "a"),))), [leg], [[pair] for pair in leg])

    def test_only_keys_take_references_along(self):
        # The columns of the reference of u are those of the key to which t refers.
        catalog = with_facts(("v", key("x")), ("u", key("x")), ("u", ref("x", "v", "x")), ("t", ref("x", "u", "x")), ("u", ("in", "x", ("a", "b"))))
        leg = [(T, ("ref", (1,), U, (5,))), (U, ("key", (5,)))]
        self.check(catalog, ONLY_T, plain((0,), (T, ((1, 0),)), (U, ((5, 0),)), lists=(None,)), [leg], [[pair] for pair in leg])
        catalog = with_facts(("v", key("x")), ("u", key("x")), ("u", ref("x", "v", "x")), ("t", ref("x", "u", "x")), ("t", ref("y", "v", "x")))
        leg = [(T, ("ref", (1,), U, (5,))), (T, ("ref", (2,), V, (9,))), (U, ("key", (5,))), (V, ("key", (9,)))]
        self.check(catalog, ONLY_T, plain((0,), (T, ((1, 0), (2, 1))), (U, ((5, 0),)), (V, ((9, 1),)), lists=NONE2), [leg], [[pair] for pair in leg])

    def test_the_order_in_which_facts_are_left_out(self):
        # Either list of one value makes the class this value; the others never do.
        catalog = with_facts(("t", ("in", "x", ("a",))), ("t", ("in", "x", ("a", "b"))), ("v", ("in", "x", ("a",))), ("v", ("in", "x", ("a", "b"))))
        one, two = plain((0,), (T, ((1, 0),)), (V, ((9, 0),)), lists=(None,)), plain(("a",), (T, ((1, "a"),)), (V, ((9, "a"),)))
        self.check(catalog, one, two, [[(T, ("in", 1, ("a",)))], [(V, ("in", 9, ("a",)))]], [[(T, ("in", 1, ("a",))), (V, ("in", 9, ("a",)))]], [(T, ("in", 1, ("a",)))])

    def test_facts_that_no_plan_reaches(self):
        catalog = with_facts(("u", key("y")), ("t", ref("x", "u", "y")), ("v", key("x")))
        self.check(catalog, plain((0,), (V, ((9, 0),)), lists=(None,)), distinct(plain((0,), (V, ((9, 0),)), lists=(None,))), [[(V, ("key", (9,)))]], [[(V, ("key", (9,)))]])

    def test_no_legs_and_no_ends(self):
        catalog = with_facts(("t", key("x")), ("u", key("x")), ("t", ref("x", "u", "x")))
        one, two = ONLY_T, distinct(ONLY_T)
        legs = legs_of(catalog, one, two)
        self.assertEqual(legs, [[(T, ("key", (1,)))]])
        for are in (are_legs, are_ends):
            for thing in samples.variants(legs):
                self.assertIs(are(catalog, one, two, thing), repr(thing) == repr(legs), thing)
            for thing in samples.any_objects() + samples.very_large_objects() + [catalog, one]:
                self.assertIs(are(catalog, one, two, thing), False, samples.shown(thing))
                self.assertIs(are(catalog, one, two, [thing]), False)
                self.assertIs(are(catalog, one, two, [[thing]]), False)
            self.assertIs(are(catalog, one, one, []), are is are_ends)
            self.assertIs(are(catalog, one, one, [[]]), are is are_legs)
            for thing in [(), ((),), [()], None, {}, [[], []], False]:
                self.assertIs(are(catalog, one, one, thing), False)
        catalog = with_facts(("t", key("x")))
        self.assertIs(are_legs(catalog, one, two, [[(False, ("key", (True,)))]]), False)
        self.assertIs(are_legs(catalog, one, two, [[(0, ("key", (True,)))]]), False)
        self.assertIs(are_ends(catalog, one, two, [[(False, ("key", (1,)))]]), False)
        self.assertIs(are_ends(thing=[[(0, ("key", (1,)))]], two=two, one=one, catalog=catalog), True)
        self.assertIs(are_legs(thing=[[(0, ("key", (1,)))]], two=two, one=one, catalog=catalog), True)

    def test_other_orders(self):
        catalog = with_facts(("t", key("x")), ("t", key("x y")), ("t", key("z")))
        one = plain((0, 1), (T, ((1, 0), (2, 1))), lists=NONE2)
        legs = legs_of(two=distinct(one), one=one, catalog=catalog)
        self.assertEqual([len(leg) for leg in legs], [1, 1])
        self.assertIs(are_legs(catalog, one, distinct(one), legs[::-1]), False)
        self.assertIs(are_legs(catalog, one, distinct(one), legs[:1]), False)
        self.assertIs(are_legs(catalog, one, distinct(one), legs + legs[:1]), False)
        ends = ends_of(two=distinct(one), one=one, catalog=catalog)
        self.assertEqual([len(end) for end in ends], [2])
        for wrong in ([ends[0][::-1]], [tuple(ends[0])], tuple(ends), [ends[0][:1]], [ends[0] + ends[0][:1]], [ends[0], []]):
            self.assertIs(are_ends(catalog, one, distinct(one), wrong), False)

    def test_what_is_returned_is_new(self):
        catalog = with_facts(("t", key("x")))
        for call in (legs_of, ends_of):
            found = call(catalog, ONLY_T, distinct(ONLY_T))
            found[0].clear()
            found.clear()
            self.assertEqual(call(catalog, ONLY_T, distinct(ONLY_T)), [[(T, ("key", (1,)))]])
        one_leg(two=distinct(ONLY_T), one=ONLY_T, catalog=catalog).clear()
        self.assertEqual(one_leg(catalog, ONLY_T, distinct(ONLY_T)), [(T, ("key", (1,)))])
        self.assertEqual([catalog.facts_of(T), catalog.facts_of(V)], [[("key", (1,))], []])


class WorldsTest(LegsCase):
    def test_worlds(self):
        seen = {}
        for seed in range(400):
            source = random.Random(seed)
            catalog = worlds.make_table_catalog(source, source.choice([6, 12, 25]))
            if len(worlds.facts_in(catalog)) > 7:
                continue
            for _ in range(12):
                one, two = worlds.make_pair(source, catalog)
                two = source.choice([two, lean_plan(catalog, one)])
                if one == two or (not alike(catalog, one, two) and source.random() < 0.8):
                    continue
                legs, ends = checking.legs(catalog, one, two), checking.ends(catalog, one, two)
                self.check(catalog, one, two, legs, ends, checking.leg_left(catalog, one, two))
                self.check_crossing(worlds.facts_in(catalog), legs, ends)
                word = (len(legs), len(ends))
                seen[word] = seen.get(word, 0) + 1
        self.assertTrue(min(seen[0, 1], seen[1, 0], seen[1, 1]) > 20, seen)
        self.assertGreater(sum([many for (legs, ends), many in seen.items() if legs > 1 or ends > 1]), 10, seen)

    def check_crossing(self, facts, legs, ends):
        """The ends are the least lists with a fact of each leg, and the legs those with one of each end that are closed."""
        for ones, others in ((legs, ends), (ends, legs)):
            least = []
            for some in checking.parts_of_list(facts):
                if all([any([pair in some for pair in other]) for other in others]) and not any([checking.has_all(some, one) for one in least]):
                    least.append(some)
            self.assertEqual(sorted(least), ones)
        for one, other in itertools.product(legs, ends):
            self.assertTrue(any([pair in other for pair in one]))
        self.assertTrue(all([checking.is_closed(leg) for leg in legs]))
