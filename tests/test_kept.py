"""[38]: what became of kept plans."""

import copy
import random
import unittest

from boundonce.bindings import binding_of
from boundonce.deeds import after_deed, after_deeds
from boundonce.kept import word_for, words_behind
from boundonce.likeness import alike
from boundonce.plans import plan_of
from boundonce.texts import read
from tests import samples, slow, worlds
from tests.built import catalog_of, function, raised, table, view

PATH, ROLE = ("own", "main"), "boss"
TEXT = "select name, f(town) as f from emp, dept where dept = id"


def a_catalog():
    return catalog_of(
        *table("main.emp", "name, dept", "boss"), *table("main.dept", "id, town", "boss"), *function("main.f", "text"),
        ("fact", "main", "dept", ("key", ("id",))), ("fact", "main", "emp", ("ref", ("dept",), "main", "dept", ("id",))))


def slow_word(catalog, statement, path, role, binding, plan):
    """Return the word for a kept plan, by what stands in the catalog."""
    numbers = [table for table, _ in plan[2]] + [column for _, columns in plan[2] for column, _ in columns]
    waiting = list(plan[1])
    while waiting:
        term = waiting.pop()
        if isinstance(term, tuple):
            numbers.append(term[1])
            waiting += term[2]
    if not set(numbers) <= set(catalog.all_numbers):
        return "broken"
    fresh, refused = slow.bound_or_refusal(catalog, statement, path, role)
    if refused is not None:
        return "refused"
    if fresh == binding:
        return "same"
    return "alike" if alike(catalog, plan_of(catalog, fresh), plan) else "apart"


class WordsTest(unittest.TestCase):
    def setUp(self):
        self.catalog = a_catalog()

    def check(self, words, deeds, text=TEXT, catalog=None):
        """These are the words at first and behind each of the deeds."""
        catalog = self.catalog if catalog is None else catalog
        statement = read(text)
        before = copy.deepcopy(deeds)
        self.assertEqual(words_behind(catalog, statement, PATH, ROLE, deeds), words.split())
        self.assertEqual(deeds, before)
        binding = binding_of(catalog, statement, PATH, ROLE)
        plan = plan_of(catalog, binding)
        for word, at in zip(words.split(), range(len(deeds) + 1)):
            behind = after_deeds(catalog, deeds[:at])
            self.assertEqual(word_for(behind, statement, PATH, ROLE, binding, plan), word, deeds[:at])
            self.assertEqual(slow_word(behind, statement, PATH, ROLE, binding, plan), word, deeds[:at])

    def test_no_deeds(self):
        self.check("same", [])

    def test_same(self):
        self.check("same same same same", [("table", "main", "x", (("a", "text"),)), ("column", "main", "emp", "age", "num"), ("grant", "kim", "main", "emp")])
        self.check("same same", [("drop fact", "main", "dept", ("key", ("id",)))])

    def test_broken(self):
        self.check("same broken broken", [("drop", "main", "emp"), ("table", "main", "emp", (("name", "text"), ("dept", "text")))])
        self.check("same broken broken", [("drop column", "main", "emp", "name"), ("column", "main", "emp", "name", "text")])
        self.check("same broken broken", [("drop function", "main", "f", ("text",)), ("function", "main", "f", ("text",), "text")])
        self.check("same broken", [("drop column", "main", "dept", "town")])

    def test_only_what_stands_in_the_plan_breaks_it(self):
        self.check("same same", [("drop column", "main", "emp", "dept")], "select name from emp, dept")
        # The binding has a condition on the column, but the plan does not name it: it is equal to itself alone.
        self.check("same refused", [("drop column", "main", "emp", "dept")], "select name from emp where dept = dept")
        self.check("same broken", [("drop function", "main", "f", ("text",))], "select f('a') as a from emp")
        self.check("same broken", [("drop function", "main", "f", ("text",))], "select f(f('a')) as a from emp")
        catalog = catalog_of(*table("main.t", "x, y", "boss"), *view("main.v", "select x, y from t", "main", "boss"))
        self.check("same same refused broken", [("column", "main", "t", "z", "text"), ("drop", "main", "v"), ("drop", "main", "t")], "select x from v", catalog)

    def test_refused(self):
        self.check("same refused same", [("rename", "main", "emp", "other"), ("rename", "main", "other", "emp")])
        self.check("same refused", [("revoke", "boss", "main", "dept")])
        self.check("same refused", [("column", "main", "emp", "town", "text")])
        self.check("same refused", [("rename column", "main", "dept", "id", "key")])
        self.check("same broken", [("drop", "main", "dept")])

    def test_broken_goes_before_refused_and_refused_before_alike(self):
        self.check("same refused broken broken", [("revoke", "boss", "main", "emp"), ("drop", "main", "dept"), ("drop", "main", "emp")])

    def test_alike_and_apart(self):
        self.check("same apart same", [("rule", "boss", "main", "emp", "name", ("kim",)), ("drop rule", "boss", "main", "emp")])
        self.check("same apart", [("function", "own", "f", ("text",), "text")])
        fact = ("fact", "main", "emp", ("in", "name", ("kim", "tom")))
        self.check("same same alike apart alike", [fact, ("rule", "boss", "main", "emp", "name", ("kim", "tim", "tom")), ("drop fact",) + fact[1:], fact])
        # A table of the same columns under the name is another table.
        self.check("same refused refused apart", [("table", "own", "dept", (("id", "text"), ("town", "text"))), ("column", "own", "dept", "more", "text"), ("grant", "boss", "own", "dept")])
        catalog = catalog_of(*table("main.t", "x, y", "boss"), *view("own.v", "select x, y from t", "main", "boss"))
        deeds = [("rename", "own", "v", "w"), ("view", "own", "v", read("select x from t"), ("main",)), ("grant", "boss", "own", "v")]
        self.check("same refused refused alike", deeds, "select x from v", catalog)
        deeds[1] = ("view", "own", "v", read("select y as x from t"), ("main",))
        self.check("same refused refused apart", deeds, "select x from v", catalog)

    def test_the_kept_plan_is_looked_at_with_the_facts_that_there_are(self):
        catalog = catalog_of(*table("main.t", "x, y", "boss"), *table("main.u", "x", "boss"), *view("own.v", "select t.x from t, u where y = u.x", "main", "boss"))
        deeds = [("fact", "main", "u", ("key", ("x",))), ("fact", "main", "t", ("ref", ("y",), "main", "u", ("x",))), ("drop", "own", "v"), ("view", "own", "v", read("select x from t"), ("main",)), ("grant", "boss", "own", "v"),
                 ("drop fact", "main", "u", ("key", ("x",)))]
        self.check("same same same refused refused alike apart", deeds, "select v.x from v", catalog)

    def test_histories_that_are_taken_back(self):
        catalog = self.catalog
        statement = read(TEXT)
        binding = binding_of(catalog, statement, PATH, ROLE)
        plan = plan_of(catalog, binding)
        ahead = after_deeds(catalog, [("table", "own", "emp", (("name", "text"),)), ("function", "own", "f", ("text",), "text")])
        back = catalog.numbered_from(ahead.next_number)
        self.assertEqual(word_for(ahead, statement, PATH, ROLE, binding, plan), "refused")
        self.assertEqual(word_for(back, statement, PATH, ROLE, binding, plan), "same")
        self.check("same broken", [("drop", "main", "emp")], catalog=back)
        # What was made in the catalog that was taken back is no thing behind it.
        made = after_deeds(ahead, [("drop", "own", "emp")])
        other = binding_of(made, statement, PATH, ROLE)
        self.assertEqual(word_for(made, statement, PATH, ROLE, other, plan_of(made, other)), "same")
        again = after_deed(back, ("function", "own", "f", ("text",), "text"))
        self.assertEqual(word_for(again, statement, PATH, ROLE, other, plan_of(made, other)), "broken")
        self.assertEqual(word_for(catalog, statement, PATH, ROLE, other, plan_of(made, other)), "broken")

    def test_errors(self):
        binding = binding_of(self.catalog, read(TEXT), PATH, ROLE)
        plan = plan_of(self.catalog, binding)
        calls = [lambda *arguments: word_for(self.catalog, *arguments, binding, plan), lambda *arguments: words_behind(self.catalog, *arguments, [None])]
        for call in calls:
            for thing in samples.any_objects() + samples.very_large_objects():
                self.assertEqual(raised(call, thing, None, None), "InvalidStatement", samples.shown(thing))
                wrong = slow_path(thing)
                self.assertEqual(raised(call, read(TEXT), thing, "in"), "InvalidPath" if wrong else "InvalidName", samples.shown(thing))
                if not isinstance(thing, str):
                    self.assertEqual(raised(call, read(TEXT), PATH, thing), "InvalidName", samples.shown(thing))
        for deeds in ([], [None]):
            self.assertEqual(raised(words_behind, self.catalog, read("select a from emp"), PATH, ROLE, deeds), "Unknown")
            self.assertEqual(raised(words_behind, self.catalog, read(TEXT), PATH, "kim", deeds), "NoRight")
        for thing in samples.any_objects():
            self.assertEqual(raised(words_behind, self.catalog, read(TEXT), PATH, ROLE, [("drop", "main", "emp"), thing, ("drop", "main", "emp")]), "InvalidDeed")
        self.assertEqual(raised(words_behind, self.catalog, read(TEXT), PATH, ROLE, [("drop", "main", "emp"), ("drop", "main", "emp"), None]), "Unknown")
        self.assertEqual(raised(words_behind, self.catalog, read(TEXT), PATH, ROLE, [("rename", "main", "emp", "dept")]), "Taken")
        self.assertEqual(raised(words_behind, self.catalog, read(TEXT), PATH, ROLE, [("fact", "main", "dept", ("ref", ("id",), "main", "dept", ("id",)))]), "Unfit")

    def test_by_name_and_new(self):
        binding = binding_of(self.catalog, read(TEXT), PATH, ROLE)
        named = {"role": ROLE, "path": PATH, "statement": read(TEXT), "catalog": self.catalog}
        self.assertEqual(word_for(plan=plan_of(self.catalog, binding), binding=binding, **named), "same")
        words = words_behind(deeds=[], **named)
        self.assertEqual(words, ["same"])
        words.clear()
        self.assertEqual(words_behind(deeds=[], **named), ["same"])

    def test_worlds(self):
        seen = {}
        for seed in range(120):
            source = random.Random(seed)
            catalog = worlds.make_catalog(source, 45)
            for _ in range(4):
                statement, path, role = worlds.make_any(source, catalog)
                binding, _ = slow.bound_or_refusal(catalog, statement, path, role)
                if binding is not None and len(slow_rows(binding)) <= 4:
                    self.check_history(source, (catalog, statement, path, role), binding, seen)
        self.assertTrue(len(seen) == 5 and min(seen.values()) > 10, seen)

    def check_history(self, source, arguments, binding, seen):
        catalog, statement, path, role = arguments
        plan = plan_of(catalog, binding)
        deeds, behind, words = [], catalog, ["same"]
        tables = [catalog.thing_of(number)[1:3] for number in worlds.tables_of(catalog)]
        for _ in range(25):
            deed = worlds.make_deed(source, 0.6)
            if source.random() < 0.5:
                values = tuple(sorted(set(source.choices("abc", k=2))))
                deed = source.choice([("rule", role, *source.choice(tables), "x", values), ("drop rule", role, *source.choice(tables)),
                                      ("fact", *source.choice(tables), ("in", "x", values))])
            after = worlds.tried(behind, deed)
            if after is not behind:
                deeds.append(deed)
                behind = after
                words.append(slow_word(behind, statement, path, role, binding, plan))
        self.assertEqual(words_behind(catalog, statement, path, role, deeds), words)
        for word in words:
            seen[word] = seen.get(word, 0) + 1


def slow_rows(binding):
    """Return the rows that a binding reads, also of views."""
    found = []
    for source in binding[2]:
        found += [source] if source[0] == "table" else slow_rows(source[2])
    return found


def slow_path(thing):
    """Return whether a thing is no path."""
    names = isinstance(thing, tuple) and all([isinstance(part, str) and part in ("a", "b") for part in thing])
    return not (names and len(set(thing)) == len(thing))
