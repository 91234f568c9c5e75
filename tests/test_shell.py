"""[43]: the shell."""

import random
import unittest

from boundonce.bindings import binding_of
from boundonce.caches import Cache
from boundonce.catalogs import Catalog
from boundonce.deedtexts import read_deed, write_deed, write_entry
from boundonce.errors import BoundError
from boundonce.leaning import lean_plan
from boundonce.least import fewest_rows
from boundonce.plans import plan_of
from boundonce.shell import Shell
from boundonce.texts import read, write
from boundonce.watch import watch_of
from boundonce.ways import path_classes
from tests import oracles, samples, worlds
from tests.built import raised
from tests.test_caches import some_statements

NAMES = "select name from emp, dept where dept = id"
DEEDS = """create table main.emp (name text, dept text)
create table main.dept (id text, town text)
add fact main.dept key (id)
add fact main.emp ref (dept) main.dept (id)
grant main.emp boss
grant main.dept boss
create function main.f (text) text""".split("\n")


def a_shell():
    """Return a shell with a cache c of a catalog with emp and dept, and a session s."""
    shell = Shell()
    lines = ["new c text,word word>text", "enter c s own,main boss"] + ["perform c s " + text for text in DEEDS]
    told = [shell.run(line) for line in lines]
    assert told == ["done"] * len(lines), told
    return shell


class ShellTest(unittest.TestCase):
    def setUp(self):
        self.shell = a_shell()

    def check(self, line, told):
        found = self.shell.run(line)
        self.assertEqual(found, told, line)
        self.assertIs(type(found), str)

    def check_raised(self, line, word):
        self.assertEqual(raised(self.shell.run, line), word, samples.shown(line))


class LinesTest(ShellTest):
    def test_new(self):
        self.check("new d text -", "done")
        self.check("new e a,b,c,d a>b,b>a,c>d", "done")
        self.check("count d", "0 0")
        for line in ["new f - -", "new f text,text -", "new f a,b,c,d,e -", "new f in -", "new f text,, -", "new f ,text -", "new f Text -", "new f a>b -", "new f text text", "new f text text>text", "new f a,b a>c", "new f a,b a>b,a>b",
                     "new f a,b a>b>a", "new f a,b a>b,", "new f a,b ,a>b", "new f a,b >", "new f a,b a>", "new f a,b a>b,-", "new f a,b --", "new f a.b -", "new f a\n -", "new f 'a' -"]:
            self.check_raised(line, "InvalidCatalog")
        self.check_raised("count f", "UnknownName")
        for line in ["new c text -", "new c - -", "new d a,b a>b,a>b"]:
            self.check_raised(line, "DuplicateName")
        self.assertEqual(Shell().run(line="new c text -"), "done")

    def test_enter(self):
        self.check("enter c t - kim", "done")
        self.check("enter c u a,b,c,d,e,f kim", "done")
        for line in ["enter c In own boss", "enter c in - in", "enter c s1 own,own boss", "enter c ' - -"]:
            self.check_raised(line, "InvalidName")
        for line in ["enter c s own boss", "enter c t ,, in", "enter c u - -"]:
            self.check_raised(line, "DuplicateName")
        for line in ["enter c v own,own boss", "enter c v a,b,c,d,e,f,g boss", "enter c v own, in", "enter c v ,own boss", "enter c v , boss", "enter c v own,-", "enter c v in boss", "enter c v --", "enter c v -,-"]:
            self.check_raised(line if line.count(" ") == 4 else line + " boss", "InvalidPath")
        for line in ["enter c v own in", "enter c v - -", "enter c v own Boss", "enter c v own a,b"]:
            self.check_raised(line, "InvalidName")
        self.check("leave c t", "done")
        self.check_raised("enter c t - kim", "DuplicateName")
        self.check_raised("leave c t", "UnknownName")

    def test_perform_begin_commit_revert(self):
        self.check("enter c t main boss", "done")
        self.check("begin c s", "done")
        self.check("perform c s create table own.dept (id text, town text)", "done")
        self.check_raised("perform c t drop main.emp", "Busy")
        self.check_raised("begin c t", "Busy")
        self.check_raised("commit c t", "NotBegun")
        self.check_raised("revert c t", "NotBegun")
        self.check_raised("ask c s " + NAMES, "NoRight")
        self.check("ask c t " + NAMES, "bound")
        self.check("revert c s", "done")
        self.check("ask c s " + NAMES, "bound")
        self.check("begin c s", "done")
        self.check("perform c s drop main.dept", "done")
        self.check("commit c s", "done")
        self.check_raised("ask c t " + NAMES, "Unknown")
        self.check("count c", "2 0")
        for text, word in [("drop main.dept", "Unknown"), ("rename main.emp to emp", "Taken"), ("drop column main.emp.name", None), ("drop column main.emp.dept", "Unfit")]:
            self.check("perform c s " + text, "done") if word is None else self.check_raised("perform c s " + text, word)

    def test_ask_and_count(self):
        self.check("count c", "0 0")
        self.check("ask c s " + NAMES, "bound")
        self.check("ask c s " + NAMES, "kept")
        self.check("ask c s " + NAMES, "kept")
        self.check("count c", "1 2")
        self.check("perform c s grant main.emp kim", "done")
        self.check("ask c s " + NAMES, "kept")
        self.check("perform c s drop fact main.emp ref (dept) main.dept (id)", "done")
        self.check("ask c s " + NAMES, "bound")
        self.check("count c", "2 3")
        for text, word in [("select age from emp", "Unknown"), ("select name from emp, emp e", "Ambiguous"), ("select f(name) as a from emp where age in ('a')", "Unknown")]:
            self.check_raised("ask c s " + text, word)
        self.check("count c", "2 3")

    def test_watch(self):
        self.check("watch c s select name from emp", "at main.emp 0; column 0 name 1; free own.emp; right boss 0; rule boss 0 none")
        self.check("perform c s set rule main.emp boss dept ('a', 'b')", "done")
        self.check("watch c s select e.*, f(town) as t from main.emp e, main.dept",
                   "at main.dept 3; at main.emp 0; column 3 town 5; columns 0 name 1 dept 2; function main.f (text) 6; right boss 0; right boss 3; "
                   "rule boss 0 2 ('a', 'b'); rule boss 3 none; unmade own.f (text)")
        self.check_raised("watch c s select age from emp", "Unknown")
        self.check("count c", "0 0")

    def test_watch_in_what_was_begun(self):
        self.check("enter c t own,main boss", "done")
        self.check("begin c s", "done")
        self.check("perform c s rename column main.emp.name to title", "done")
        self.check_raised("watch c s select name from emp", "Unknown")
        self.check("watch c t select name from emp", "at main.emp 0; column 0 name 1; free own.emp; right boss 0; rule boss 0 none")
        self.check("watch c s select title from emp", "at main.emp 0; column 0 title 1; free own.emp; right boss 0; rule boss 0 none")

    def test_alike(self):
        self.check("alike c s select name from emp / " + NAMES, "alike")
        self.check("alike c s select name from emp / select distinct name from emp", "apart 3")
        self.check("alike c s select id from dept / select distinct id from dept", "alike")
        self.check("alike c s select id from dept / select town from dept", "apart 1")
        self.check("alike c s select f(id) as a from dept / select distinct f(id) as b from dept", "apart 2")
        self.check("perform c s drop fact main.emp ref (dept) main.dept (id)", "done")
        self.check("alike c s select name from emp / " + NAMES, "apart 1")
        self.check("alike c s select name from emp / select distinct name from emp", "apart 2")
        self.check_raised("alike c s select age from emp / select name from emp, emp e where name = name", "Unknown")
        self.check_raised("alike c s select e.name from emp, emp e where name = name / select age from emp", "Ambiguous")
        self.check_raised("alike c s select name from emp / select name from emp, emp e", "Ambiguous")
        for line in ["alike c s select name from emp", "alike c s select name from emp /", "alike c s / select name from emp", "alike c s select name from emp / ", "alike c s select name from emp / select name from emp / select name from emp",
                     "alike c s select name from emp/select name from emp", "alike c s select name from emp  /  select name from emp", "alike c s /", "alike c s / /", "alike c s select name from emp / drop main.emp"]:
            self.check_raised(line, "InvalidLine")

    def test_lean(self):
        self.check("lean c s " + NAMES, "1")
        self.check("lean c s select town from emp, dept where dept = id", "2")
        self.check("lean c s select distinct e.name from emp, dept, dept d, emp e", "1")
        self.check_raised("lean c s select age from emp", "Unknown")
        self.check("count c", "0 0")

    def test_paths(self):
        self.check("paths c s select name from main.emp", "1")
        self.check("paths c s select name from emp", "2")
        self.check("perform c s create table own.emp (name text)", "done")
        self.check("perform c s grant own.emp boss", "done")
        self.check("paths c s select name from emp", "3")
        self.check("enter c t - kim", "done")
        self.check("paths c t select name from emp", "1")
        self.check("paths c s select age from emp", "1")
        self.check("count c", "0 0")

    def test_session_errors(self):
        for word in ("leave", "begin", "commit", "revert"):
            for name in ("t", "S", "in", "-", "s,", "'"):
                self.check_raised(f"{word} c {name}", "UnknownName")
        for line in ["perform c t drop main.emp", "ask c t " + NAMES, "watch c t " + NAMES, "lean c t " + NAMES, "paths c t " + NAMES, f"alike c t {NAMES} / {NAMES}"]:
            self.check_raised(line, "UnknownName")
        for word in ("commit", "revert"):
            self.check_raised(f"{word} c s", "NotBegun")


class WordsTest(ShellTest):
    """Which lines are none, ahead of all that the calls look at."""

    LINES = ["new d text,word word>text", "enter c t own,main boss", "begin c s", "commit c s", "begin c s", "revert c s", "perform c s grant main.emp kim", "ask c s " + NAMES, "watch c s " + NAMES, "lean c s " + NAMES, "paths c s " + NAMES,
             f"alike c s {NAMES} / {NAMES}", "count c", "leave c t"]

    def test_right_lines(self):
        for line in self.LINES:
            self.assertIsNone(raised(self.shell.run, line), line)

    def test_one_word_more_and_one_less_and_empty_words(self):
        for line in self.LINES:
            words = line.split(" ")
            for at in range(len(words) + 1):
                self.check_raised(" ".join(words[:at] + [""] + words[at:]), "InvalidLine")
                # Within a text a word more may make another text.
                for word in ("x", "-", "\n", "in") if at < 4 or len(words) < 6 else ():
                    self.check_raised(" ".join(words[:at] + [word] + words[at:]), "InvalidLine")
            for at in range(len(words) if len(words) < 6 else 4):
                self.check_raised(" ".join(words[:at] + words[at + 1:]), "InvalidLine")
            for at in range(len(words)):
                self.check_raised(" ".join(words[:at] + [""] + words[at + 1:]), "InvalidLine")
            for other in [line + " ", " " + line, line.replace(" ", "  ", 1), line.replace(" ", "\t", 1), line.replace(" ", "\n", 1), line.upper(), line[1:]]:
                self.check_raised(other, "InvalidLine")

    def test_the_name_of_the_cache(self):
        for line in self.LINES:
            words = line.split(" ")
            for name in ("C", "in", "abcdefghi", "c,", "-", "'c'", "c1", "c\n"):
                self.check_raised(" ".join(words[:1] + [name] + words[2:]), "InvalidLine")
            if words[0] != "new":
                self.check_raised(" ".join(words[:1] + ["x"] + words[2:]), "UnknownName")
                self.check_raised(" ".join(words[:1] + ["abcdefgh"] + words[2:]), "UnknownName")

    def test_first_words(self):
        for word in ["", "x", "New", "catalog", "barred", "copy", "run", "session", "shared", "drop", "-", "ask\n", "counts"]:
            for rest in ["", " c", " c s", " c s t", " c s own boss", " c s " + NAMES]:
                self.check_raised(word + rest, "InvalidLine")

    def test_texts_come_before_names(self):
        for line in ["perform x s drop emp", "perform c x drop emp", "ask x s select", "ask c x select name", "watch x x select name from", "lean c s select name from emp where", "paths c in select in from emp", "perform c s " + NAMES,
                     "ask c s drop main.emp", "perform c s drop", "perform c s create view own.v () as select 'a' as b from c", "ask c s select name from emp /", f"ask c s {NAMES} / {NAMES}"]:
            self.check_raised(line, "InvalidLine")
        for line in ["perform x S drop main.emp", "ask x - select name from emp", "enter x in in in", "leave x in", "count x"]:
            self.check_raised(line, "UnknownName")

    def test_any_objects(self):
        for thing in samples.any_objects() + samples.very_large_objects() + [["count", "c"], ("count c",), b"count c"]:
            self.check_raised(thing, "InvalidLine")
        for line in ["ask c s " + "(" * 20000, "perform c s " + "(" * 20000, "ask c s select " + "f(" * 20000, "x " * 20000, " " * 20000, "count " + "c" * 20000, "enter c " + "t," * 20000]:
            self.check_raised(line, "InvalidLine")
        self.check_raised("enter c t " + "a," * 20000 + "a boss", "InvalidPath")
        self.check_raised("new d " + "a," * 20000 + "a -", "InvalidCatalog")

    def test_a_line_that_raises_changes_nothing(self):
        before = [self.shell.run(line) for line in ("count c", "watch c s " + NAMES)]
        for line in ["new c text -", "new d in -", "enter c t - in", "ask c s select age from emp", "perform c s drop own.emp", "commit c s", "perform c s drop", "leave c t"]:
            self.assertIsNotNone(raised(self.shell.run, line), line)
        self.assertEqual([self.shell.run(line) for line in ("count c", "watch c s " + NAMES)], before)
        self.check("new d text -", "done")
        self.check("enter c t - boss", "done")

    def test_caches_and_shells_are_independent(self):
        self.check("new d text -", "done")
        self.check("enter d s - boss", "done")
        self.check_raised("ask d s select name from main.emp", "Unknown")
        self.check("ask c s select name from main.emp", "bound")
        self.assertEqual([self.shell.run("count c"), self.shell.run("count d")], ["1 0", "0 0"])
        other = a_shell()
        self.assertEqual(other.run("count c"), "0 0")
        self.assertEqual(raised(other.run, "count d"), "UnknownName")


class WorldsTest(unittest.TestCase):
    """Lines, with what the calls say."""

    def test_worlds(self):
        seen = {}
        for seed in range(25):
            source = random.Random(seed)
            shell, cache = Shell(), Cache(Catalog(worlds.TYPES, worlds.CASTS))
            shell.run("new c num,text,word word>text,num>word")
            for name in ("a", "b"):
                shell.run(f"enter c {name} main,own,old boss")
                cache.enter(name, ("main", "own", "old"), "boss")
            while len(worlds.tables_of(cache.shared)) < 4:
                self.perform(shell, cache, worlds.make_building_deed(source))
            for place in worlds.tables_of(cache.shared):
                self.perform(shell, cache, ("grant", "boss", *cache.shared.thing_of(place)[1:3]))
            statements = some_statements(source, cache.shared)
            for _ in range(40):
                line, call = self.make_line(source, cache, statements)
                self.compare(shell, line, call, seen)
        for word in ["done", "bound", "kept", "alike", "apart", "UnknownName", "Busy", "NotBegun", "Unknown", "Taken", "NoRight"]:
            self.assertGreater(seen.get(word, 0), 3, (word, seen))

    def perform(self, shell, cache, deed):
        self.assertEqual(raised(shell.run, "perform c a " + write_deed(deed)), raised(cache.perform, "a", deed))

    def compare(self, shell, line, call, seen):
        try:
            wanted = call()
        except BoundError as error:
            self.assertEqual(raised(shell.run, line), type(error).__name__, line)
            wanted = type(error).__name__
        else:
            self.assertEqual(shell.run(line), wanted, line)
        word = wanted.split(" ")[0]
        seen[word] = seen.get(word, 0) + 1

    def make_line(self, source, cache, statements):
        """Return any line, and a call that does the same to the cache and returns the text."""
        name = source.choice(["a", "a", "b", "b", "b", "x"])
        word = source.choice(["begin", "commit", "revert", "perform", "perform", "perform", "ask", "ask", "ask", "watch", "alike", "lean", "paths", "count"])
        if word == "count":
            return "count c", lambda: f"{cache.bound_anew} {cache.used_again}"
        if word in ("begin", "commit", "revert"):
            return f"{word} c {name}", lambda: getattr(cache, word)(name) and "done" or "done"
        if word == "perform":
            deed = worlds.make_deed(source, 0.5)
            self.assertTrue(oracles.deed_fits(deed) and read_deed(write_deed(deed)) == deed)
            return f"perform c {name} {write_deed(deed)}", lambda: cache.perform(name, deed) and "done" or "done"
        one, two = source.choice(statements), source.choice(statements)
        if source.random() < 0.5:
            two = (not one[0],) + one[1:]
        text = f"{write(one)} / {write(two)}" if word == "alike" else write(one)
        return f"{word} c {name} {text}", lambda: told(cache, word, name, one, two)


def told(cache, word, name, one, two):
    """Return what a line that asks is told."""
    if word == "ask":
        before = cache.used_again
        cache.ask(name, one)
        return "kept" if cache.used_again > before else "bound"
    catalog, place = cache.catalog_for(name), (("main", "own", "old"), "boss")
    if word == "watch":
        return "; ".join([write_entry(entry) for entry in watch_of(catalog, one, *place)])
    if word == "paths":
        return str(len(path_classes(catalog, one, "boss")))
    plan = plan_of(catalog, binding_of(catalog, one, *place))
    if word == "lean":
        return str(len(lean_plan(catalog, plan)[2]))
    rows = fewest_rows(catalog, plan, plan_of(catalog, binding_of(catalog, two, *place)))
    return "alike" if rows is None else f"apart {rows}"
