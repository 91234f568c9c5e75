"""[39] and [40]: caches."""

import random
import unittest

from boundonce.bindings import binding_of
from boundonce.caches import Cache
from boundonce.catalogs import Catalog
from boundonce.data import answers_to
from boundonce.deeds import after_deed, after_deeds
from boundonce.errors import BoundError
from boundonce.leaning import lean_plan
from boundonce.legs import one_leg
from boundonce.likeness import alike
from boundonce.plans import plan_of
from boundonce.records import Recorder
from boundonce.texts import read
from boundonce.watch import watch_of
from tests import cachemodel, samples, worlds
from tests.built import catalog_of, function, raised, table, view

PATH, ROLE = ("own", "main"), "boss"
TOWNS, NAMES = read("select town from dept"), read("select name from emp, dept where dept = id")
OWN = ("table", "own", "dept", (("town", "text"),))
KEY, REF = ("main", "dept", ("key", ("id",))), ("main", "emp", ("ref", ("dept",), "main", "dept", ("id",)))
LEG = [(0, ("ref", (2,), 3, (4,))), (3, ("key", (4,)))]


def a_catalog():
    """Return a catalog with emp (0: name 1, dept 2), dept (3: id 4, town 5) and a function (6), in which each emp refers to a dept."""
    return catalog_of(*table("main.emp", "name, dept", "boss", "kim"), *table("main.dept", "id, town", "boss", "kim"), *function("main.f", "text"),
                      ("fact", *KEY), ("fact", *REF))


def a_cache(*names):
    """Return a cache with sessions of these names, all with the same path and role."""
    cache = Cache(a_catalog())
    for name in names:
        cache.enter(name, PATH, ROLE)
    return cache


def fresh(catalog, statement, path=PATH, role=ROLE):
    """Return the lean plan of a statement that is bound now."""
    return lean_plan(catalog, plan_of(catalog, binding_of(catalog, statement, path, role)))


class SessionsTest(unittest.TestCase):
    def test_a_new_cache(self):
        cache = Cache(catalog=a_catalog())
        self.assertEqual(cachemodel.told_by(cache), (a_catalog(), 7, [], 0, 0, []))
        self.assertEqual(cachemodel.told_by(Cache(Catalog(("text",)))), (Catalog(("text",)), 0, [], 0, 0, []))

    def test_enter_and_leave(self):
        cache = Cache(a_catalog())
        self.assertIsNone(cache.enter("b", (), "kim"))
        self.assertIsNone(cache.enter(role="boss", path=("main",), name="a"))
        self.assertEqual(cache.sessions, ["a", "b"])
        self.assertIsNone(cache.leave("b"))
        self.assertEqual(cache.sessions, ["a"])
        cache.leave(name="a")
        self.assertEqual(cache.sessions, [])
        cache.enter("c", (), "kim")
        self.assertEqual(cache.sessions, ["c"])

    def test_the_errors_of_enter(self):
        cache = a_cache("a", "b")
        cache.leave("b")
        for thing in samples.any_objects() + samples.very_large_objects():
            if not (isinstance(thing, str) and raised(a_cache().enter, thing, (), "a") is None):
                self.assertEqual(raised(cache.enter, thing, None, None), "InvalidName", samples.shown(thing))
                self.assertEqual(raised(cache.enter, "c", (), thing), "InvalidName", samples.shown(thing))
            if not isinstance(thing, tuple) or len(thing) > 2 or [part for part in thing if part not in ("a", "b")] or len(set(thing)) < len(thing):
                self.assertEqual(raised(cache.enter, "c", thing, None), "InvalidPath", samples.shown(thing))
        for name in ("a", "b"):
            self.assertEqual(raised(cache.enter, name, None, None), "DuplicateName")
            self.assertEqual(raised(cache.enter, name, (), "boss"), "DuplicateName")
        self.assertEqual(cache.sessions, ["a"])
        # Names that a refused call was given are still free.
        self.assertIsNone(cache.enter("c", ("main", "own", "a", "b", "c", "d"), "boss"))
        self.assertEqual(raised(cache.enter, "d", ("main", "own", "a", "b", "c", "d", "e"), "boss"), "InvalidPath")

    def test_unknown_names(self):
        cache = a_cache("a", "b")
        cache.leave("b")
        calls = [cache.leave, cache.begin, cache.commit, cache.revert, cache.catalog_for, lambda name: cache.perform(name, None), lambda name: cache.ask(name, None), lambda name: cache.barred(name, None)]
        things = [thing for thing in samples.any_objects() + samples.very_large_objects() if thing != "a"]
        for call in calls:
            for thing in things + ["b", "c", ("a",), ["a"]]:
                self.assertEqual(raised(call, thing), "UnknownName", samples.shown(thing))
        cache.begin("a")
        for call in calls:
            self.assertEqual(raised(call, "b"), "UnknownName")
        self.assertEqual(cachemodel.told_by(cache), (a_catalog(), 7, ["a"], 0, 0, []))


class BeginTest(unittest.TestCase):
    def setUp(self):
        self.cache = a_cache("a", "b")

    def test_what_a_session_does_only_itself_sees(self):
        cache = self.cache
        before = cache.shared
        self.assertIsNone(cache.begin("a"))
        self.assertEqual(cache.perform("a", OWN), ())
        self.assertEqual([cache.catalog_for("a"), cache.catalog_for("b"), cache.shared], [after_deed(before, OWN), before, before])
        self.assertEqual(cache.commit("a"), ())
        self.assertEqual([cache.catalog_for("a"), cache.catalog_for("b"), cache.shared], [after_deed(before, OWN)] * 3)

    def test_revert(self):
        cache = self.cache
        before = cache.shared
        cache.begin("a")
        cache.perform("a", OWN)
        self.assertIsNone(cache.revert("a"))
        self.assertEqual([cache.catalog_for("a"), cache.catalog_for("b"), cache.shared], [before] * 3)
        # Numbers are not given again: the table and its column had 7 and 8.
        self.assertEqual(cache.shared.next_number, 9)
        cache.perform("b", OWN)
        self.assertEqual(cache.shared.standing_at("own", "dept"), 9)
        cache.begin("b")
        cache.revert("b")
        self.assertEqual(cache.shared.next_number, 11)

    def test_leave_takes_back(self):
        cache = self.cache
        before = cache.shared
        cache.begin("a")
        cache.perform("a", OWN)
        cache.ask("a", TOWNS) if raised(cache.ask, "a", TOWNS) is None else None
        cache.leave("b")
        self.assertEqual(cache.catalog_for("a").next_number, 9)
        cache.leave("a")
        self.assertEqual([cache.shared, cache.shared.next_number, cache.sessions], [before, 9, []])
        cache.enter("c", PATH, ROLE)
        cache.begin("c")
        cache.perform("c", OWN)
        self.assertEqual(cache.catalog_for("c").standing_at("own", "dept"), 9)

    def test_busy(self):
        cache = self.cache
        cache.begin("a")
        before = cachemodel.told_by(cache)
        self.assertEqual(raised(cache.begin, "b"), "Busy")
        self.assertEqual(raised(cache.begin, "a"), "Busy")
        for deed in (OWN, None, ("drop", "main", "nothing")):
            self.assertEqual(raised(cache.perform, "b", deed), "Busy")
        self.assertEqual(raised(cache.commit, "b"), "NotBegun")
        self.assertEqual(raised(cache.revert, "b"), "NotBegun")
        self.assertEqual(cachemodel.told_by(cache), before)
        cache.commit("a")
        self.assertEqual(raised(cache.begin, "b"), None)
        cache.revert("b")
        self.assertEqual(raised(cache.begin, "a"), None)
        cache.leave("a")
        self.assertEqual(raised(cache.begin, "b"), None)

    def test_not_begun(self):
        for name in ("a", "b"):
            self.assertEqual(raised(self.cache.commit, name), "NotBegun")
            self.assertEqual(raised(self.cache.revert, name), "NotBegun")
        self.cache.begin("a")
        self.cache.commit("a")
        self.assertEqual([raised(self.cache.commit, "a"), raised(self.cache.revert, "a")], ["NotBegun"] * 2)

    def test_the_errors_of_deeds(self):
        cache = self.cache
        wrong = {"InvalidDeed": ("drop", "main"), "Unknown": ("drop", "main", "nothing"), "Taken": ("rename", "main", "emp", "dept"), "Unfit": ("fact", "main", "dept", ("ref", ("id",), "main", "dept", ("id",)))}
        for begun in (False, True):
            before = [cache.catalog_for("a"), cache.catalog_for("a").next_number]
            for word, deed in wrong.items():
                self.assertEqual(raised(cache.perform, "a", deed), word)
            for thing in samples.any_objects() + samples.very_large_objects():
                self.assertEqual(raised(cache.perform, "a", thing), "InvalidDeed", samples.shown(thing))
            self.assertEqual([cache.catalog_for("a"), cache.catalog_for("a").next_number], before)
            cache.begin("a") if not begun else None

    def test_a_refused_deed_does_not_end_what_was_begun(self):
        cache = self.cache
        cache.begin("a")
        cache.perform("a", OWN)
        self.assertEqual(raised(cache.perform, "a", OWN), "Taken")
        self.assertEqual(cache.catalog_for("a").standing_at("own", "dept"), 7)
        cache.commit("a")
        self.assertEqual(cache.shared.standing_at("own", "dept"), 7)


class AskTest(unittest.TestCase):
    def setUp(self):
        self.cache = a_cache("a", "b")

    def counts(self):
        return [self.cache.bound_anew, self.cache.used_again]

    def test_bound_once_and_used_again(self):
        lean = fresh(self.cache.shared, NAMES)
        self.assertEqual(len(lean[2]), 1)
        self.assertEqual(self.cache.ask("a", NAMES), lean)
        self.assertEqual(self.counts(), [1, 0])
        self.assertEqual(self.cache.ask(statement=NAMES, name="b"), lean)
        self.assertEqual(self.cache.ask("a", NAMES), lean)
        self.assertEqual(self.counts(), [1, 2])
        self.assertEqual(self.cache.plans_kept, [(NAMES, PATH, ROLE, lean)])
        self.cache.ask("b", TOWNS)
        self.assertEqual(self.counts(), [2, 2])
        self.assertEqual([row[0] for row in self.cache.plans_kept], [NAMES, TOWNS])

    def test_for_another_path_or_role(self):
        self.cache.enter("c", ("main",), ROLE)
        self.cache.enter("d", PATH, "kim")
        self.cache.enter("e", PATH, ROLE)
        for name, counts in [("a", [1, 0]), ("c", [2, 0]), ("d", [3, 0]), ("e", [3, 1]), ("c", [3, 2]), ("d", [3, 3])]:
            self.cache.ask(name, NAMES)
            self.assertEqual(self.counts(), counts)
        self.assertEqual([row[1:3] for row in self.cache.plans_kept], [(PATH, ROLE), (("main",), ROLE), (PATH, "kim")])

    def test_errors(self):
        for call in (self.cache.ask, self.cache.barred):
            for thing in samples.any_objects() + samples.very_large_objects() + [list(NAMES), (0,) + NAMES[1:], NAMES[:3], (1,) + NAMES[1:]]:
                self.assertEqual(raised(call, "a", thing), "InvalidStatement", samples.shown(thing))
        wrong = {"Unknown": "select a from emp", "Ambiguous": "select e.name from emp e, emp f where name = name", "Mismatch": "select kind from emp where kind = name"}
        self.cache.perform("a", ("column", "main", "emp", "kind", "num"))
        for word, text in wrong.items():
            self.assertEqual(raised(self.cache.ask, "a", read(text)), word)
            self.assertEqual(self.cache.barred("a", read(text)), [])
        self.cache.enter("c", PATH, "tom")
        self.assertEqual(raised(self.cache.ask, "c", NAMES), "NoRight")
        self.cache.perform("a", ("view", "own", "ring", read("select name from ring"), ("own",)))
        self.cache.perform("a", ("view", "own", "call", read("select f(name) as name from emp"), ("main",)))
        for name in ("ring", "call"):
            self.cache.perform("a", ("grant", "boss", "own", name))
        self.assertEqual(raised(self.cache.ask, "a", read("select name from ring")), "Ring")
        self.assertEqual(raised(self.cache.ask, "a", read("select name from call where name in ('a')")), "OnCall")
        self.assertEqual([self.counts(), self.cache.plans_kept], [[0, 0], []])

    def test_a_deed_forgets_what_does_not_stand_any_more(self):
        self.cache.ask("a", NAMES)
        self.cache.ask("a", TOWNS)
        self.cache.enter("c", ("main",), ROLE)
        self.cache.ask("c", TOWNS)
        self.assertEqual(self.cache.perform("b", ("table", "own", "other", (("a", "text"),))), ())
        self.assertEqual(self.cache.perform("b", OWN), ((NAMES, PATH, ROLE), (TOWNS, PATH, ROLE)))
        self.assertEqual([row[:3] for row in self.cache.plans_kept], [(TOWNS, ("main",), ROLE)])
        self.assertEqual(raised(self.cache.ask, "a", TOWNS), "NoRight")
        self.assertEqual(self.cache.perform("b", ("drop", "own", "dept")), ())
        self.cache.ask("a", TOWNS)
        self.assertEqual(self.counts(), [4, 0])

    def test_a_fact_of_the_leg(self):
        self.cache.ask("a", NAMES)
        self.cache.ask("a", TOWNS)
        # Plans that stand on no fact stay, and so do those that stand on others.
        self.assertEqual(self.cache.perform("a", ("fact", "main", "emp", ("key", ("name",)))), ())
        self.assertEqual(self.cache.perform("a", ("drop fact", "main", "emp", ("key", ("name",)))), ())
        self.assertEqual(self.cache.perform("a", ("drop fact", *REF)), ((NAMES, PATH, ROLE),))
        self.assertEqual(len(self.cache.ask("a", NAMES)[2]), 2)
        self.assertEqual(self.counts(), [3, 0])
        # The fuller plan stands on no fact, and so goes on when the fact is there again.
        self.assertEqual(self.cache.perform("a", ("fact", *REF)), ())
        self.assertEqual(len(self.cache.ask("b", NAMES)[2]), 2)
        self.assertEqual(self.counts(), [3, 1])

    def test_the_leg_is_of_the_plan_and_the_lean_one(self):
        # Needless are the row that a reference forces, and distinct, by a key; the watch tells nothing of these.
        statement = (True,) + NAMES[1:]
        self.cache.perform("a", ("fact", "main", "emp", ("key", ("name",))))
        self.cache.perform("a", ("fact", "main", "emp", ("in", "dept", ("a", "b"))))
        lean = self.cache.ask("a", statement)
        catalog = self.cache.shared
        plan = plan_of(catalog, binding_of(catalog, statement, PATH, ROLE))
        self.assertEqual([lean[0], len(lean[2])], [False, 1])
        leg = one_leg(catalog, plan, lean)
        self.assertEqual(leg, [(0, ("key", (1,)))] + LEG)
        for number, fact in worlds.facts_in(catalog):
            other = self.cache.copy()
            deed = worlds.fact_deed(catalog, "drop fact", (number, fact))
            self.assertEqual(other.perform("a", deed), ((statement, PATH, ROLE),) if (number, fact) in leg else ())

    def test_a_fact_that_is_dropped_and_declared_again(self):
        cache = self.cache
        cache.ask("a", NAMES)
        cache.begin("a")
        cache.perform("a", ("drop fact", *REF))
        self.assertEqual(cache.barred("a", NAMES), [LEG[0]])
        self.assertEqual(cache.barred("b", NAMES), [None])
        cache.perform("a", ("fact", *REF))
        self.assertEqual(cache.barred("a", NAMES), [None])
        cache.ask("a", NAMES)
        self.assertEqual(self.counts(), [1, 1])
        self.assertEqual(cache.commit("a"), ())
        self.assertEqual(len(cache.plans_kept), 1)
        # Outside of what is begun it is forgotten at once.
        self.assertEqual(cache.perform("a", ("drop fact", *KEY)), ((NAMES, PATH, ROLE),))
        cache.perform("a", ("fact", *KEY))
        cache.perform("a", ("fact", *REF))
        self.assertEqual(cache.barred("a", NAMES), [])

    def test_what_is_returned_is_new(self):
        self.cache.ask("a", NAMES)
        for _ in range(2):
            for found, size in [(self.cache.sessions, 2), (self.cache.plans_kept, 1), (self.cache.barred("a", NAMES), 1)]:
                self.assertEqual(len(found), size)
                found.clear()


class AsideTest(unittest.TestCase):
    """Plans that a session keeps while it has begun."""

    def setUp(self):
        self.cache = a_cache("a", "b")
        self.cache.ask("b", TOWNS)
        self.cache.begin("a")
        self.cache.perform("a", ("column", "main", "emp", "age", "text"))

    def test_only_itself_uses_them_until_commit(self):
        cache = self.cache
        cache.ask("a", NAMES)
        self.assertEqual([cache.bound_anew, cache.used_again, len(cache.plans_kept)], [2, 0, 1])
        self.assertEqual([cache.barred("a", NAMES), cache.barred("b", NAMES)], [[None], []])
        cache.ask("a", NAMES)
        cache.ask("a", TOWNS)
        self.assertEqual([cache.bound_anew, cache.used_again], [2, 2])
        cache.ask("b", NAMES)
        self.assertEqual([cache.bound_anew, cache.used_again, len(cache.plans_kept)], [3, 2, 2])
        self.assertEqual(cache.commit("a"), ())
        # In the order in which they were kept, not in that in which all came to see them.
        self.assertEqual([row[0] for row in cache.plans_kept], [TOWNS, NAMES, NAMES])
        self.assertEqual(cache.barred("b", NAMES), [None, None])
        cache.ask("b", NAMES)
        self.assertEqual([cache.bound_anew, cache.used_again], [3, 3])

    def test_commit_forgets_what_does_not_stand(self):
        cache = self.cache
        cache.ask("a", NAMES)
        cache.ask("b", NAMES)
        cache.perform("a", ("drop fact", *REF))
        full = cache.ask("a", NAMES)
        self.assertEqual([len(full[2]), cache.bound_anew], [2, 4])
        self.assertEqual(cache.barred("a", NAMES), [LEG[0], LEG[0], None])
        cache.perform("a", ("rename column", "main", "dept", "town", "place"))
        self.assertEqual(cache.plans_kept, [(TOWNS, PATH, ROLE, fresh(cache.shared, TOWNS)), (NAMES, PATH, ROLE, fresh(cache.shared, NAMES))])
        self.assertEqual(cache.commit("a"), ((TOWNS, PATH, ROLE), (NAMES, PATH, ROLE), (NAMES, PATH, ROLE)))
        self.assertEqual(cache.plans_kept, [(NAMES, PATH, ROLE, full)])

    def test_revert_and_leave_forget_them(self):
        for end in ("revert", "leave"):
            cache = self.cache.copy()
            cache.ask("a", NAMES)
            cache.ask("b", NAMES)
            getattr(cache, end)("a")
            self.assertEqual([row[0] for row in cache.plans_kept], [TOWNS, NAMES])
            self.assertEqual([cache.bound_anew, cache.used_again], [3, 0])
            self.assertEqual(cache.barred("b", NAMES), [None])
            cache.ask("b", NAMES)
            cache.ask("b", TOWNS)
            self.assertEqual([cache.bound_anew, cache.used_again], [3, 2])
            self.assertEqual(cache.perform("b", OWN), ((TOWNS, PATH, ROLE), (NAMES, PATH, ROLE)))

    def test_of_several_the_one_kept_first(self):
        cache = self.cache
        lean = cache.ask("a", NAMES)
        cache.perform("a", ("drop fact", *REF))
        full = cache.ask("a", NAMES)
        self.assertNotEqual(lean, full)
        self.assertEqual(cache.ask("a", NAMES), full)
        cache.perform("a", ("fact", *REF))
        self.assertEqual(cache.barred("a", NAMES), [None, None])
        self.assertEqual(cache.ask("a", NAMES), lean)
        self.assertEqual([cache.bound_anew, cache.used_again], [3, 2])
        cache.commit("a")
        self.assertEqual([row[3] for row in cache.plans_kept], [fresh(cache.shared, TOWNS), lean, full])
        self.assertEqual(cache.ask("b", NAMES), lean)
        self.assertEqual(cache.perform("b", ("drop fact", *REF)), ((NAMES, PATH, ROLE),))
        self.assertEqual(cache.ask("b", NAMES), full)

    def test_a_name_stays_free_only_for_others(self):
        cache = self.cache
        cache.perform("a", OWN)
        cache.perform("a", ("grant", "boss", "own", "dept"))
        self.assertEqual(cache.barred("a", TOWNS), [("free", "own", "dept")])
        self.assertEqual(cache.barred("b", TOWNS), [None])
        other = cache.ask("a", TOWNS)
        self.assertEqual(other[2][0][0], 8)
        self.assertEqual(cache.ask("b", TOWNS)[2][0][0], 3)
        self.assertEqual(cache.barred("a", TOWNS), [("free", "own", "dept"), None])
        self.assertEqual(cache.commit("a"), ((TOWNS, PATH, ROLE),))
        self.assertEqual(cache.ask("b", TOWNS), other)

    def test_barred_tells_the_first_entry_and_then_the_first_fact(self):
        cache = a_cache("a")
        cache.ask("a", NAMES)
        watch = watch_of(cache.shared, NAMES, PATH, ROLE)
        cache.begin("a")
        for deed, entry in [(("drop fact", *REF), LEG[0]), (("drop fact", *KEY), LEG[0]), (("fact", *KEY), LEG[0]), (("fact", *REF), None), (("drop fact", *KEY), LEG[0]),
                            (("rule", "boss", "main", "emp", "name", ("a",)), ("rule", "boss", 0, None)), (("rename column", "main", "emp", "name", "title"), ("column", 0, "name", 1)),
                            (("column", "main", "emp", "id", "text"), ("bare", 0, "id")), (("rename", "main", "dept", "old"), ("at", "main", "dept", 3)), (("fact", *KEY[:1], "old", KEY[2]), ("at", "main", "dept", 3))]:
            cache.perform("a", deed)
            self.assertEqual(cache.barred(statement=NAMES, name="a"), [entry])
            if entry is not None:
                self.assertIn(entry, watch + LEG)

    def test_a_rule_that_is_set_again(self):
        cache = self.cache
        cache.perform("a", ("rule", "boss", "main", "dept", "town", ("a", "b")))
        ruled = cache.ask("a", TOWNS)
        self.assertEqual(cache.barred("a", TOWNS), [("rule", "boss", 3, None), None])
        cache.perform("a", ("drop rule", "boss", "main", "dept"))
        self.assertEqual(cache.barred("a", TOWNS), [None, ("rule", "boss", 3, (5, ("a", "b")))])
        cache.perform("a", ("rule", "boss", "main", "dept", "town", ("a", "b")))
        self.assertEqual(cache.ask("a", TOWNS), ruled)
        self.assertEqual(cache.commit("a"), ((TOWNS, PATH, ROLE),))


class CopyTest(unittest.TestCase):
    def test_copies_are_independent(self):
        for begun in (False, True):
            for make in (Cache, Recorder):
                cache = make(a_catalog())
                for name in ("a", "b", "c"):
                    cache.enter(name, PATH, ROLE)
                cache.leave("c")
                cache.ask("a", TOWNS)
                if begun:
                    cache.begin("a")
                    cache.perform("a", ("drop fact", *REF))
                    cache.ask("a", NAMES)
                before = cachemodel.told_by(cache)
                other = cache.copy()
                self.assertIs(type(other), make)
                self.assertEqual(cachemodel.told_by(other), before)
                self.assertEqual([other.catalog_for(name) for name in ("a", "b")], [cache.catalog_for(name) for name in ("a", "b")])
                self.assertEqual(other.barred("a", NAMES), cache.barred("a", NAMES))
                self.change(other, begun)
                self.assertEqual(cachemodel.told_by(cache), before)
                self.assertEqual(cache.barred("a", NAMES), [None] if begun else [])
                self.assertEqual(raised(cache.begin, "b"), "Busy" if begun else None)
                again = cache.copy()
                told = cachemodel.told_by(again)
                self.change(cache, begun or not begun)
                self.assertEqual(cachemodel.told_by(again), told)

    def change(self, cache, begun):
        """Do to a cache what can be done to it."""
        self.assertEqual(raised(cache.enter, "c", PATH, ROLE), "DuplicateName")
        cache.enter("d", PATH, ROLE)
        cache.ask("d", TOWNS)
        if begun and raised(cache.commit, "a") is not None:
            cache.commit("b")
        cache.perform("d", OWN)
        cache.leave("b")
        self.assertEqual(raised(cache.ask, "a", TOWNS), "NoRight")
        cache.perform("a", ("grant", "boss", "own", "dept"))
        cache.ask("a", TOWNS)


class WorldsTest(unittest.TestCase):
    """Any calls, with those of the model."""

    def test_worlds(self):
        seen = {}
        for seed in range(50):
            source = random.Random(seed)
            catalog = worlds.make_catalog(source, 45)
            cache, model = Cache(catalog), cachemodel.Model(catalog)
            statements = some_statements(source, catalog)
            for name, role in (("a", "boss"), ("b", "boss"), ("c", "kim")):
                self.do(cache, model, "enter", (name, ("main", "own", "old"), role), seen)
            for _ in range(90):
                word, arguments = make_call(source, cache, statements)
                self.do(cache, model, word, arguments, seen)
                if source.random() < 0.05:
                    cache, model = cache.copy(), model.copy()
        words = "enter leave perform begin commit revert ask".split()
        for word in words + ["DuplicateName", "UnknownName", "InvalidName", "InvalidPath", "InvalidStatement", "InvalidDeed", "Busy", "NotBegun", "Unknown", "Taken", "NoRight", "forgotten", "again", "several"]:
            self.assertGreater(seen.get(word, 0), 5, (word, seen))

    def do(self, cache, model, word, arguments, seen):
        try:
            wanted = getattr(model, "do_" + word)(*arguments)
            found = getattr(cache, word)(*arguments)
            self.assertEqual(found, wanted, (word, arguments))
            self.assertIs(type(found), type(wanted))
            seen[word] = seen.get(word, 0) + 1
            seen["forgotten"] = seen.get("forgotten", 0) + (word in ("perform", "commit") and found != ())
            if word == "ask":
                self.check_told(cache, arguments[0], arguments[1], found)
        except cachemodel.Refused as refused:
            self.assertEqual(raised(getattr(cache, word), *arguments), refused.args[0], (word, arguments))
            seen[refused.args[0]] = seen.get(refused.args[0], 0) + 1
        self.assertEqual(cachemodel.told_by(cache), model.told())
        seen["again"] = max(seen.get("again", 0), cache.used_again)
        for name in cache.sessions:
            self.assertEqual(cache.catalog_for(name), model.catalog_for(name))
            self.assertEqual(cache.catalog_for(name).next_number, model.catalog_for(name).next_number)
            if word == "ask" and arguments[0] in cache.sessions and raised(cache.barred, name, arguments[1]) is None:
                bars = cache.barred(name, arguments[1])
                self.assertEqual(bars, model.barred(name, arguments[1]))
                seen["several"] = seen.get("several", 0) + (len(bars) > 1)

    def check_told(self, cache, name, statement, told):
        """What a session is told has the answers of a fresh binding on data that keep the facts of what it sees."""
        catalog = cache.catalog_for(name)
        plan = plan_of(catalog, binding_of(catalog, statement, *cache.path_and_role_of(name)))
        self.assertIs(alike(catalog, plan, told), True)
        data = worlds.make_data(random.Random(1), catalog, worlds.facts_in(catalog), 2, 10)
        for flat in (False, True):
            if data is not None:
                self.assertEqual(answers_to(catalog, plan, data, flat=flat), answers_to(catalog, told, data, flat=flat))


def some_statements(source, catalog):
    """Return a few statements, most of which bind for the path that most sessions have."""
    found = []
    while len(found) < 5:
        statement = worlds.make_any(source, catalog)[0]
        if raised(binding_of, catalog, statement, ("main", "own", "old"), "boss") is None or source.random() < 0.02:
            found.append(statement)
    return found


def make_call(source, cache, statements):
    """Return any call of a cache: its name and arguments."""
    name = source.choice(cache.sessions + ["a", "d"]) if source.random() < 0.97 else source.choice([None, "in", ["a"]])
    word = source.choice(["enter", "leave"] + ["begin", "commit", "revert"] * 2 + ["perform"] * 9 + ["ask"] * 14)
    if word == "enter":
        path = worlds.make_path(source) if source.random() < 0.75 else source.choice([None, ["main"], ("main", "main")])
        return word, (source.choice(["a", "d", "e", "f", "g", "h", "in"]), path, source.choice(worlds.ROLES + ["boss", "boss", "in"]))
    if word == "leave" and source.random() < 0.7:
        word = "begin"
    if word == "perform":
        deeds = [make_deed(source) for _ in range(5)]
        seen = cache.catalog_for(name) if name in cache.sessions else cache.shared
        fitting = [deed for deed in deeds if worlds.tried(seen, deed) is not seen]
        return word, (name, (fitting + deeds)[0] if source.random() < 0.97 else None)
    if word == "ask":
        return word, (name, source.choice(statements) if source.random() < 0.97 else None)
    return word, (name,)


def make_deed(source):
    """Return any deed, often one that is soon taken back."""
    if source.random() < 0.6:
        return worlds.make_deed(source, 0.5)
    place = (source.choice(worlds.SCHEMAS), source.choice(worlds.NAMES))
    key, rule = ("key", ("x",)), ("rule", "boss", *place, "x", ("a", "b"))
    return source.choice([("fact", *place, key), ("drop fact", *place, key), rule, ("drop rule", "boss", *place), ("rename", *place, "w"), ("rename", place[0], "w", place[1])])


class ErrorsTest(unittest.TestCase):
    def test_a_call_that_raises_changes_nothing(self):
        cache = a_cache("a", "b")
        cache.ask("a", NAMES)
        for begun in (False, True):
            before, seen = cachemodel.told_by(cache), cache.catalog_for("a")
            for call in [lambda: cache.enter("c", (), "in"), lambda: cache.enter("a", (), ROLE), lambda: cache.leave("c"), lambda: cache.perform("a", ("drop", "own", "none")), lambda: cache.perform("c", OWN),
                         lambda: cache.begin("c"), lambda: cache.commit("b"), lambda: cache.revert("b"), lambda: cache.ask("a", None), lambda: cache.ask("a", read("select a from emp")), lambda: cache.ask("c", NAMES),
                         lambda: cache.barred("a", None)]:
                with self.assertRaises(BoundError):
                    call()
                self.assertEqual([cachemodel.told_by(cache), cache.catalog_for("a")], [before, seen])
            if not begun:
                cache.begin("a")
                cache.perform("a", OWN)

    def test_the_catalog_that_was_passed_stays(self):
        catalog = a_catalog()
        cache = Cache(catalog)
        cache.enter("a", PATH, ROLE)
        cache.perform("a", OWN)
        self.assertEqual([catalog, catalog.next_number], [a_catalog(), 7])
        self.assertEqual(after_deeds(catalog, [OWN]), cache.shared)
