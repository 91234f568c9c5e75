"""[8], [9], the path of [11], and [22]."""

import random
import unittest

from boundonce.statements import is_path, is_statement, is_view_statement
from tests import oracles, samples

SOURCE = (None, "emp", "emp")
COLUMN = ("column", (None, "name"), "name")
PLAIN = (False, (COLUMN,), (SOURCE,), ())
FULL = (
    True,
    (
        ("star", "e"),
        ("column", ("e", "name"), "who"),
        ("term", "from", "word"),
        ("term", ("call", "own", "f", ((None, "x"), ("call", None, "g", ("in",)))), "out"),
    ),
    (("main", "emp", "e"), (None, "dept", "dept")),
    (("equal", ("e", "dept"), (None, "dept")), ("in", (None, "town"), ("rom", "select"))),
)
VIEW = (
    False,
    (("column", (None, "a"), "a"), ("term", ("call", None, "f", (("x", "y"),)), "b")),
    (SOURCE,),
    (("in", (None, "a"), ("a", "b")),),
)


def with_told(*told):
    return (False, told, (SOURCE,), ())


def with_sources(*sources):
    return (False, (COLUMN,), sources, ())


def with_conditions(*conditions):
    return (False, (COLUMN,), (SOURCE,), conditions)


def nested_call(deepest):
    """Return so many calls within one another."""
    term = (None, "a")
    for _ in range(deepest):
        term = ("call", None, "f", (term,))
    return term


class StatementsTest(unittest.TestCase):
    def check(self, thing, expected):
        self.assertIs(is_statement(thing), expected, samples.shown(thing))

    def test_statements(self):
        self.check(PLAIN, True)
        self.check(FULL, True)
        self.check(VIEW, True)

    def test_distinct_is_a_bool(self):
        for thing in (0, 1, None, "True", ()):
            self.check((thing,) + PLAIN[1:], False)
        self.check((True,) + PLAIN[1:], True)

    def test_one_to_four_sources(self):
        for size in range(7):
            self.check(with_sources(*[(None, "t", label) for label in "abcdefg"[:size]]), 1 <= size <= 4)

    def test_labels_differ(self):
        self.check(with_sources(("main", "a", "x"), ("own", "b", "x")), False)
        self.check(with_sources(("main", "a", "x"), ("own", "b", "y"), (None, "c", "x")), False)
        self.check(with_sources(("main", "a", "x"), ("main", "a", "a")), True)

    def test_sources(self):
        for source in [(None, None, "a"), (None, "a", None), ("in", "a", "a"), (None, "where", "a"), (None, "a", "as"),
                       (None, "a"), (None, "a", "a", "a"), ("", "a", "a"), [None, "a", "a"], "abc", (False, "a", "a")]:
            self.check(with_sources(source), False)

    def test_one_to_eight_told(self):
        for size in range(11):
            self.check(with_told(*[COLUMN] * size), 1 <= size <= 8)

    def test_told(self):
        for item in [("star", "x"), ("column", ("x", "y"), "z"), ("term", "select", "a"), ("term", nested_call(1), "a"),
                     ("column", ("call", "call"), "call"), ("star", "star"), COLUMN, COLUMN]:
            self.check(with_told(item), True)
        for item in [("star", None), ("star", "in"), ("star",), ("star", "x", "x"), ("star", ("x",)), "star",
                     ("column", ("x", "y")), ("column", ("x", None), "z"), ("column", ("in", "y"), "z"),
                     ("column", (None, "as"), "z"), ("column", "name", "name"), ("column", nested_call(1), "a"),
                     ("column", (None, "a"), None), ("column", (None, "a"), "from"), ("column", (None, "a", "a"), "a"),
                     ("term", (None, "a"), "a"), ("term", "ulm", None), ("term", "ulm", "select"), ("term", "ULM", "a"),
                     ("term", None, "a"), ("value", "ulm", "a"), ["star", "x"], ("term", "abcdefghi", "a"), (), None]:
            self.check(with_told(item), False)

    def test_calls_within_one_another(self):
        for deepest in range(1, 7):
            self.check(with_told(("term", nested_call(deepest), "a")), deepest <= 3)
            second = ("call", None, "f", ("v", nested_call(deepest)))
            self.check(with_told(("term", second, "a")), deepest <= 2)

    def test_calls(self):
        column = (None, "a")
        for size in range(5):
            self.check(with_told(("term", ("call", None, "f", (column,) * size), "a")), 1 <= size <= 2)
        for call in [("call", "in", "f", (column,)), ("call", None, None, (column,)), ("call", None, "as", (column,)),
                     ("call", None, "f", [column]), ("call", None, "f", column), ("call", None, "f", "a"),
                     ("call", None, "f"), ("call", None, "f", (column,), "a"), ("calls", None, "f", (column,)),
                     ("call", None, "f", ("A",)), ("call", None, "f", (None,)), ["call", None, "f", (column,)],
                     ("call", None, "f", (("a",),)), ("call", None, "f", (column, ("star", "in")))]:
            self.check(with_told(("term", call, "a")), False)

    def test_at_most_eight_conditions(self):
        for size in range(11):
            self.check(with_conditions(*[("in", (None, "a"), ("a",))] * size), size <= 8)

    def test_conditions(self):
        column = ("x", "y")
        for size in range(10):
            self.check(with_conditions(("in", column, tuple("abcdefghi"[:size]))), 1 <= size <= 8)
        for item in [("equal", column, column), ("equal", (None, "in" * 2), column), ("in", column, ("in", "where"))]:
            self.check(with_conditions(item), True)
        for item in [("equal", column), ("equal", column, "a"), ("equal", "a", column), ("equal", column, nested_call(1)),
                     ("equal", column, column, column), ("same", column, column), ("in", column, ("b", "a")),
                     ("in", column, ("a", "a")), ("in", column, ["a"]), ("in", column, "a"), ("in", nested_call(1), ("a",)),
                     ("in", (None, "in"), ("a",)), ["in", column, ("a",)], ("in", list(column), ("a",)), ()]:
            self.check(with_conditions(item), False)

    def test_lists_in_place_of_tuples(self):
        for thing in (PLAIN, FULL, VIEW):
            self.check(list(thing), False)
            for at in (1, 2, 3):
                self.check(thing[:at] + (list(thing[at]),) + thing[at + 1:], False)

    def test_statements_for_views(self):
        self.assertIs(is_view_statement(VIEW), True)
        self.assertIs(is_view_statement(PLAIN), True)
        call = ("call", None, "f", ((None, "a"), ("call", None, "g", ((None, "b"), (None, "c")))))
        self.assertIs(is_view_statement(with_told(("term", call, "a"))), True)
        self.assertIs(is_view_statement((True,) + PLAIN[1:]), False)
        for told in [(("star", "emp"),), (COLUMN, ("star", "emp")), (("term", "v", "a"),), (COLUMN, ("term", "v", "a")),
                     (("term", ("call", None, "f", ("v",)), "a"),),
                     (("term", ("call", None, "f", ((None, "a"), "v")), "a"),),
                     (("term", ("call", None, "f", (("call", None, "g", ((None, "a"), "v")),)), "a"),),
                     (COLUMN, COLUMN), (COLUMN, ("term", nested_call(2), "name")),
                     (COLUMN, ("column", (None, "b"), "b"), ("column", ("x", "c"), "name"))]:
            self.assertIs(is_statement(with_told(*told)), True, told)
            self.assertIs(is_view_statement(with_told(*told)), False, told)
        self.assertIs(is_view_statement(with_told(COLUMN, ("column", (None, "name"), "other"))), True)

    def test_paths(self):
        names = ["a", "b", "c", "d", "e", "f", "g"]
        for size in range(8):
            self.assertIs(is_path(tuple(names[:size])), size <= 6, size)
        for thing in [("a", "a"), ("a", "b", "a"), ["a"], "a", ("in",), ("a", None), ("a", 1), (True,), None, (("a",),)]:
            self.assertIs(is_path(thing), False, thing)
        self.assertIs(is_path(("b", "a")), True)

    def test_any_objects(self):
        for thing in samples.any_objects():
            self.assertIs(is_statement(thing), False)
            self.assertIs(is_view_statement(thing), False)
            self.assertIs(is_path(thing), oracles.path_fits(thing) if isinstance(thing, tuple) else False)
        for thing in samples.very_large_objects():
            self.assertEqual([is_statement(thing), is_view_statement(thing), is_path(thing)], [False, False, False])

    def test_variants(self):
        for statement in (PLAIN, FULL, VIEW):
            for thing in samples.variants(statement):
                self.assertIs(is_statement(thing), oracles.statement_fits(thing), thing)
                self.assertIs(is_view_statement(thing), oracles.view_fits(thing), thing)
        for thing in samples.variants(("main", "own", "b")):
            self.assertIs(is_path(thing), oracles.path_fits(thing), thing)

    def test_statements_by_a_seed(self):
        source = random.Random(8)
        for _ in range(300):
            statement = samples.make_statement(source)
            view = samples.make_statement(source, plain=True)
            self.assertIs(is_statement(statement), True, statement)
            self.assertIs(is_view_statement(statement), oracles.view_fits(statement), statement)
            self.assertIs(is_view_statement(view), True, view)
            self.assertIs(is_path(samples.make_path(source)), True)

    def test_by_name(self):
        self.assertIs(is_statement(thing=PLAIN), True)
        self.assertIs(is_view_statement(thing=PLAIN), True)
        self.assertIs(is_path(thing=()), True)
