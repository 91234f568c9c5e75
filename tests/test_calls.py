"""[3], [12] and [25]: which function a call means."""

import copy
import itertools
import random
import unittest

from boundonce.calls import beats, best_function, fits
from boundonce.catalogs import Catalog
from boundonce.deeds import after_deeds
from boundonce.errors import Ambiguous, BoundError, Unknown
from tests.test_finding import slow_functions

TYPES = ("text", "word", "name", "kind")
CASTS = [("word", "text"), ("name", "word")]


def made(*lists, schema="main", casts=CASTS):
    """Return a catalog with a function f for each of these lists of types, numbered in order."""
    return after_deeds(Catalog(TYPES, casts), [("function", schema, "f", types, "text") for types in lists])


class FitsTest(unittest.TestCase):
    def test_one_place(self):
        catalog = made(("text",))
        for given, fit in [("text", True), ("word", True), ("name", False), ("kind", False), (None, True)]:
            self.assertIs(fits(catalog, 0, (given,)), fit, given)

    def test_casts_go_one_way_and_are_single_steps(self):
        catalog = made(("text",), ("word",), ("name",))
        self.assertEqual([fits(catalog, number, ("word",)) for number in range(3)], [True, True, False])
        self.assertEqual([fits(catalog, number, ("name",)) for number in range(3)], [False, True, True])
        self.assertEqual([fits(catalog, number, ("text",)) for number in range(3)], [True, False, False])
        self.assertEqual([fits(catalog, number, ("kind",)) for number in range(3)], [False, False, False])

    def test_two_places(self):
        catalog = made(("text", "word"))
        for given, fit in [(("text", "word"), True), (("word", "name"), True), (("word", "text"), False), ((None, None), True),
                           (("kind", None), False), ((None, "kind"), False), (("text", None), True), ((None, "name"), True)]:
            self.assertIs(fits(catalog, 0, given), fit, given)

    def test_as_many_as_its_types(self):
        catalog = made(("text",), ("text", "text"))
        for size in range(5):
            for one in ("text", "word", None):
                self.assertIs(fits(catalog, 0, (one,) * size), size == 1)
                self.assertIs(fits(catalog, 1, (one,) * size), size == 2)


class BeatsTest(unittest.TestCase):
    def test_without_a_cast_beats_with_one(self):
        catalog = made(("text",), ("word",))
        self.assertIs(beats(catalog, 1, 0, ("word",)), True)
        self.assertIs(beats(catalog, 0, 1, ("word",)), False)

    def test_values_are_not_cast(self):
        catalog = made(("text",), ("word",))
        self.assertIs(beats(catalog, 0, 1, (None,)), False)
        self.assertIs(beats(catalog, 1, 0, (None,)), False)

    def test_none_beats_itself_or_one_that_casts_alike(self):
        catalog = made(("text",), ("word",), ("kind",), casts=[("name", "text"), ("name", "word")])
        for one, other in itertools.product((0, 1), (0, 1)):
            self.assertIs(beats(catalog, one, other, ("name",)), False)
        self.assertIs(beats(made(("text",)), 0, 0, ("text",)), False)

    def test_two_places(self):
        catalog = made(("text", "text"), ("text", "word"), ("word", "text"), ("word", "word"))
        given = ("word", "word")
        wins = {(3, 0), (3, 1), (3, 2), (1, 0), (2, 0)}
        for one, other in itertools.product(range(4), range(4)):
            self.assertIs(beats(catalog, one, other, given), (one, other) in wins, (one, other))
        for one, other in itertools.product(range(4), range(4)):
            wins = {(2, 0), (2, 1), (3, 0), (3, 1)}
            self.assertIs(beats(catalog, one, other, ("word", None)), (one, other) in wins, (one, other))


class BestFunctionTest(unittest.TestCase):
    def refuse(self, error, catalog, given, path=("main",), schema=None):
        with self.assertRaises(error):
            best_function(catalog, path, schema, "f", given)

    def test_the_best(self):
        catalog = made(("text", "text"), ("text", "word"), ("word", "word"))
        for given, number in [(("text", "text"), 0), (("text", "word"), 1), (("word", "word"), 2), (("word", "text"), 0),
                              (("text", "name"), 1), (("word", "name"), 2), (("name", None), 2), (("word", None), 2)]:
            self.assertEqual(best_function(catalog, ("main",), None, "f", given), number, given)
            self.assertEqual(best_function(catalog, (), "main", "f", given), number, given)

    def test_unknown(self):
        catalog = made(("text",), ("word", "word"))
        for given in [("name",), ("kind",), ("text", "word"), (None, "kind"), (), (None,) * 3, ("text",) * 9]:
            self.refuse(Unknown, catalog, given)
        self.refuse(Unknown, catalog, ("text",), path=())
        self.refuse(Unknown, catalog, ("text",), path=("own",))
        self.refuse(Unknown, catalog, ("text",), schema="own")
        with self.assertRaises(Unknown):
            best_function(catalog, ("main",), None, "g", ("text",))

    def test_ambiguous(self):
        self.refuse(Ambiguous, made(("text",), ("word",)), (None,))
        self.refuse(Ambiguous, made(("text", "word"), ("word", "text")), ("word", "word"))
        self.refuse(Ambiguous, made(("text", "word"), ("word", "text"), ("text", "text")), ("word", "word"))
        self.refuse(Ambiguous, made(("text",), ("word",), casts=[("name", "text"), ("name", "word")]), ("name",))
        self.refuse(Ambiguous, made(("text", "text"), ("text", "word"), ("text", "kind")), ("text", None))
        self.assertEqual(best_function(made(("text", "word"), ("word", "text"), ("word", "word")), ("main",), None, "f",
                                       ("word", "word")), 2)

    def test_the_best_beats_all_others(self):
        catalog = made(("word", "kind"), ("text", "kind"), ("word", "text"), casts=[("word", "text")])
        self.refuse(Ambiguous, catalog, ("word", None))
        self.assertEqual(best_function(catalog, ("main",), None, "f", ("word", "kind")), 0)

    def test_the_first_on_the_path_of_each_list(self):
        catalog = after_deeds(made(("text",)), [("function", "own", "f", ("text",), "word"), ("function", "own", "f", ("word",), "word")])
        for path, number in [(("main",), 0), (("own",), 1), (("main", "own"), 0), (("own", "main"), 1)]:
            self.assertEqual(best_function(catalog, path, None, "f", ("text",)), number)
            self.assertEqual(best_function(catalog, path, "own", "f", ("text",)), 1)
        self.assertEqual(best_function(catalog, ("main", "own"), None, "f", ("word",)), 2)
        self.assertEqual(best_function(catalog, ("main",), None, "f", ("word",)), 0)
        self.refuse(Ambiguous, catalog, (None,), path=("main", "own"))
        self.assertEqual(best_function(catalog, ("main",), None, "f", (None,)), 0)

    def test_by_name(self):
        catalog = made(("text",), ("word",))
        self.assertEqual(best_function(catalog=catalog, path=("main",), schema=None, name="f", given=("word",)), 1)
        self.assertIs(beats(catalog=catalog, one=1, other=0, given=("word",)), True)
        self.assertIs(fits(catalog=catalog, number=1, given=("word",)), True)

    def test_any_catalogs(self):
        lists = [(one,) for one in TYPES] + list(itertools.product(TYPES, TYPES))
        handed = [given for size in range(4) for given in itertools.product(TYPES + (None,), repeat=size)]
        words = {"Unknown": 0, "Ambiguous": 0, "best": 0}
        for seed in range(12):
            source = random.Random(seed)
            casts = source.sample(list(itertools.permutations(TYPES, 2)), source.randint(0, 8))
            deeds = [("function", schema, "f", types, "text") for schema in ("main", "own")
                     for types in source.sample(lists, source.randint(1, 12))]
            catalog = after_deeds(Catalog(TYPES, casts), deeds)
            before = copy.deepcopy(catalog)
            for given, schema in itertools.product(handed, (None, "own")):
                expected = slow_best(catalog, casts, ("main", "own"), schema, given)
                self.assertEqual(told_best(catalog, ("main", "own"), schema, given), expected)
                words[expected if isinstance(expected, str) else "best"] += 1
            self.assertEqual(catalog, before)
        self.assertGreater(min(words.values()), 100)


def told_best(catalog, path, schema, given):
    try:
        return best_function(catalog, path, schema, "f", given)
    except BoundError as error:
        return type(error).__name__


def slow_best(catalog, casts, path, schema, given):
    """Find the best function from the costs 0, 1 and None at each place, as the document's words say."""
    fitting = {}
    for number in slow_functions(catalog, path, schema, "f", len(given)):
        costs = []
        for handed, asked in zip(given, catalog.thing_of(number)[3]):
            if handed in (None, asked):
                costs.append(0)
            else:
                costs.append(1 if (handed, asked) in casts else None)
        if None not in costs:
            fitting[number] = costs
    if not fitting:
        return "Unknown"
    for number, costs in fitting.items():
        others = [fitting[other] for other in fitting if other != number]
        if all(all(a <= b for a, b in zip(costs, more)) and any(a < b for a, b in zip(costs, more)) for more in others):
            return number
    return "Ambiguous"
