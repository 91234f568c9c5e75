"""[42]: the texts of deeds and of entries."""

import random
import re
import unittest

from boundonce.deeds import is_deed
from boundonce.deedtexts import read_deed, write_deed, write_entry
from boundonce.statements import is_view_statement
from boundonce.texts import read, write
from boundonce.watch import watch_of
from tests import oracles, samples, worlds
from tests.built import raised

VIEW = read("select a, f(b.c) as d from x.y b, e where a = b.c and d in ('in', 'ulm')")

# A deed of each of the sixteen forms with its text; of some forms several.
TEXTS = [
    (("table", "main", "emp", (("name", "text"),)), "create table main.emp (name text)"),
    (("table", "main", "emp", (("name", "text"), ("dept", "word"), ("a", "b"))), "create table main.emp (name text, dept word, a b)"),
    (("view", "main", "v", VIEW, ()), "create view main.v () as " + write(VIEW)),
    (("view", "main", "v", VIEW, ("own",)), "create view main.v (own) as " + write(VIEW)),
    (("view", "main", "v", VIEW, ("a", "b", "c", "d", "e", "f")), "create view main.v (a, b, c, d, e, f) as " + write(VIEW)),
    (("function", "main", "f", ("text",), "word"), "create function main.f (text) word"),
    (("function", "main", "f", ("text", "word"), "text"), "create function main.f (text, word) text"),
    (("drop", "main", "emp"), "drop main.emp"),
    (("drop function", "main", "f", ("text",)), "drop function main.f (text)"),
    (("drop function", "main", "f", ("text", "text")), "drop function main.f (text, text)"),
    (("rename", "main", "emp", "other"), "rename main.emp to other"),
    (("rename function", "main", "f", ("text",), "g"), "rename function main.f (text) to g"),
    (("rename column", "main", "emp", "name", "title"), "rename column main.emp.name to title"),
    (("column", "main", "emp", "age", "num"), "add column main.emp.age num"),
    (("drop column", "main", "emp", "age"), "drop column main.emp.age"),
    (("fact", "main", "emp", ("key", ("name",))), "add fact main.emp key (name)"),
    (("fact", "main", "emp", ("key", ("c", "a", "b"))), "add fact main.emp key (c, a, b)"),
    (("fact", "main", "emp", ("in", "name", ("kim",))), "add fact main.emp in name ('kim')"),
    (("fact", "main", "emp", ("in", "name", ("and", "in", "where"))), "add fact main.emp in name ('and', 'in', 'where')"),
    (("fact", "main", "emp", ("ref", ("dept",), "own", "dept", ("id",))), "add fact main.emp ref (dept) own.dept (id)"),
    (("fact", "main", "emp", ("ref", ("a", "a"), "own", "dept", ("d", "c"))), "add fact main.emp ref (a, a) own.dept (d, c)"),
    (("drop fact", "main", "emp", ("key", ("name",))), "drop fact main.emp key (name)"),
    (("drop fact", "main", "emp", ("in", "name", ("a", "b"))), "drop fact main.emp in name ('a', 'b')"),
    (("drop fact", "main", "emp", ("ref", ("dept",), "main", "dept", ("id",))), "drop fact main.emp ref (dept) main.dept (id)"),
    (("grant", "boss", "main", "emp"), "grant main.emp boss"),
    (("revoke", "boss", "main", "emp"), "revoke main.emp boss"),
    (("rule", "boss", "main", "emp", "name", ("kim", "tom")), "set rule main.emp boss name ('kim', 'tom')"),
    (("drop rule", "boss", "main", "emp"), "drop rule main.emp boss"),
]

# Names that look like the words of texts.
LOOKS = [
    (("drop", "function", "f"), "drop function.f"),
    (("drop", "column", "fact"), "drop column.fact"),
    (("drop", "rule", "drop"), "drop rule.drop"),
    (("drop", "fact", "key"), "drop fact.key"),
    (("drop function", "function", "function", ("function",)), "drop function function.function (function)"),
    (("drop column", "column", "column", "column"), "drop column column.column.column"),
    (("drop fact", "fact", "fact", ("key", ("key",))), "drop fact fact.fact key (key)"),
    (("drop rule", "rule", "rule", "rule"), "drop rule rule.rule rule"),
    (("rename", "function", "f", "to"), "rename function.f to to"),
    (("rename", "column", "to", "to"), "rename column.to to to"),
    (("rename function", "to", "to", ("to", "to"), "to"), "rename function to.to (to, to) to to"),
    (("rename column", "column", "column", "to", "column"), "rename column column.column.to to column"),
    (("table", "table", "view", (("table", "key"), ("ref", "to"))), "create table table.view (table key, ref to)"),
    (("view", "view", "table", read("select view from table"), ("view", "table")), "create view view.table (view, table) as select view from table"),
    (("function", "function", "table", ("to", "key"), "ref"), "create function function.table (to, key) ref"),
    (("column", "column", "fact", "column", "column"), "add column column.fact.column column"),
    (("fact", "fact", "column", ("ref", ("ref", "key"), "ref", "ref", ("key", "ref"))), "add fact fact.column ref (ref, key) ref.ref (key, ref)"),
    (("fact", "fact", "fact", ("in", "key", ("in", "ref"))), "add fact fact.fact in key ('in', 'ref')"),
    (("grant", "grant", "grant", "grant"), "grant grant.grant grant"),
    (("revoke", "to", "rule", "revoke"), "revoke rule.revoke to"),
    (("rule", "rule", "set", "rule", "set", ("rule", "set")), "set rule set.rule rule set ('rule', 'set')"),
]


class DeedTextsTest(unittest.TestCase):
    def check_no_text(self, thing):
        self.assertEqual(raised(read_deed, thing), "InvalidText", samples.shown(thing))

    def test_texts(self):
        self.assertEqual(len({deed[0] for deed, _ in TEXTS}), 16)
        self.assertEqual({deed[0] for deed, _ in LOOKS}, {deed[0] for deed, _ in TEXTS})
        for deed, text in TEXTS + LOOKS:
            self.assertIs(is_deed(deed), True, deed)
            self.assertEqual(write_deed(deed), text)
            self.assertEqual(read_deed(text), deed)
            self.assertEqual(repr(read_deed(text)), repr(deed))
        self.assertEqual(read_deed(text=TEXTS[0][1]), TEXTS[0][0])
        self.assertEqual(write_deed(deed=TEXTS[0][0]), TEXTS[0][1])

    def test_signs_put_in_left_out_doubled_and_exchanged(self):
        seen = {True: 0, False: 0}
        for _, text in TEXTS + LOOKS:
            for at in range(len(text) + 1):
                others = [text[:at] + sign + text[at:] for sign in " .,()'ax\n\tA_1/"]
                others += [text[:at] + text[at + 1:], text[:at], text[at:], text[:at] + text[at:at + 1] * 2 + text[at + 1:], text[:at] + text[at + 1:at + 2] + text[at:at + 1] + text[at + 2:]]
                others += [text[:at] + sign + text[at + 1:] for sign in " .,()'aA"]
                for other in others:
                    seen[self.check_any(other)] += 1
        self.assertGreater(min(seen.values()), 1000, seen)

    def test_words_left_out_doubled_and_exchanged(self):
        for _, text in TEXTS + LOOKS:
            words = text.split(" ")
            for at, word in enumerate(words):
                for middle in ([], [word, word], [""], ["drop"], ["function"], ["()"], ["select"], ["none"], [word.upper()], [word + ","], words[at + 1:at + 2] + [word]):
                    self.check_any(" ".join(words[:at] + middle + words[at + 1:]))

    def check_any(self, text):
        """A text is read just if it is that of a deed; return whether it is."""
        wanted = slow_deed(text)
        if wanted is None:
            self.check_no_text(text)
        else:
            self.assertEqual(read_deed(text), wanted)
            self.assertEqual(write_deed(wanted), text)
        return wanted is not None

    def test_what_is_no_deed(self):
        for text in ["create table main.emp (name text, name word)", "create table main.emp ()", "create table main.emp (" + ", ".join([f"{letter} text" for letter in "abcdefghi"]) + ")", "create function main.f () text",
                     "create function main.f (a, b, c) text", "drop function main.f ()", "drop function main.f (a, b, c)", "rename function main.f () to g", "add fact main.emp key ()", "add fact main.emp key (a, a)", "add fact main.emp key (a, b, c, d)",
                     "add fact main.emp in a ()", "add fact main.emp in a ('b', 'a')", "add fact main.emp in a ('a', 'a')", "add fact main.emp in a (" + ", ".join([f"'{letter}'" for letter in "abcdefghi"]) + ")", "add fact main.emp ref (a) main.b (c, d)",
                     "add fact main.emp ref (a, b) main.b (c, c)", "add fact main.emp ref () main.b ()", "set rule main.emp boss a ()", "set rule main.emp boss a ('b', 'a')", "create view main.v (a, a) as select b from c", "create view main.v (a, b, c, d, e, f, g) as select b from c",
                     "create view main.v () as select distinct b from c", "create view main.v () as select c.* from c", "create view main.v () as select 'a' as b from c", "create view main.v () as select b, c as b from c", "create view main.v () as select f('a') as b from c",
                     "create view main.v () as select b from c ", "create view main.v as select b from c", "create view main.v () as drop a.b", "drop emp", "drop main.emp.name", "grant emp boss", "grant main.emp", "grant boss main.emp", "drop select.emp", "drop main.in",
                     "drop main.abcdefghi", "drop  main.emp", "drop main.emp ", " drop main.emp", "Drop main.emp", "drop main.emp\n", "", " ", "drop", "drop ", "drop .", "drop main.", "drop .emp", "create", "create main.emp (name text)", "add main.emp", "set main.emp", "none"]:
            self.check_no_text(text)
            self.assertIsNone(slow_deed(text))

    def test_any_objects(self):
        for thing in samples.any_objects() + samples.very_large_objects() + [TEXTS[0], TEXTS[0][0], [TEXTS[0][1]]]:
            self.check_no_text(thing)

    def test_texts_of_any_length(self):
        for _, text in TEXTS:
            for more in ["(" * 20000, ")" * 20000, "()" * 20000, "a" * 20000, " " * 20000, ", a" * 20000, "'a', " * 20000, text * 500, "f(" * 20000, "." * 20000, "\n" * 20000]:
                for other in [text + more, more + text, text.replace("(", "(" + more, 1), text.replace(".", more, 1), text.replace(" ", " " + more, 1)]:
                    if other != text:
                        self.check_no_text(other)
        view = "create view main.v () as select {} as a from b"
        for deep in (1, 2, 3, 4, 50, 20000):
            text = view.format("f(" * deep + "x" + ")" * deep)
            if deep <= 3:
                self.assertEqual(write_deed(read_deed(text)), text)
            else:
                self.check_no_text(text)

    def test_any_deeds(self):
        seen = set()
        for seed in range(1500):
            source = random.Random(seed)
            deed = samples.make_deed(source)
            text = write_deed(deed)
            self.assertEqual(read_deed(text), deed)
            self.assertEqual(slow_deed(text), deed)
            seen.add(deed[0])
        self.assertEqual(len(seen), 16)


class EntryTextsTest(unittest.TestCase):
    def test_texts(self):
        for entry, text in [
            (("at", "main", "emp", 0), "at main.emp 0"),
            (("free", "own", "emp"), "free own.emp"),
            (("column", 0, "name", 12), "column 0 name 12"),
            (("bare", 10, "name"), "bare 10 name"),
            (("columns", 0, (("name", 1),)), "columns 0 name 1"),
            (("columns", 0, (("name", 1), ("dept", 12), ("columns", 3))), "columns 0 name 1 dept 12 columns 3"),
            (("function", "main", "f", ("text",), 3), "function main.f (text) 3"),
            (("function", "main", "f", ("text", "word"), 3), "function main.f (text, word) 3"),
            (("unmade", "own", "f", ("text",)), "unmade own.f (text)"),
            (("unmade", "own", "f", ("text", "text")), "unmade own.f (text, text)"),
            (("right", "boss", 0), "right boss 0"),
            (("rule", "boss", 0, None), "rule boss 0 none"),
            (("rule", "boss", 0, (2, ("ulm",))), "rule boss 0 2 ('ulm')"),
            (("rule", "none", 4, (7, ("none", "rom", "ulm"))), "rule none 4 7 ('none', 'rom', 'ulm')"),
        ]:
            self.assertEqual(write_entry(entry), text)
            self.assertEqual(write_entry(entry=entry), text)

    def test_entries_of_watches(self):
        seen = {}
        for seed in range(60):
            source = random.Random(seed)
            catalog = worlds.make_catalog(source, 45)
            for _ in range(6):
                arguments = (catalog, *worlds.make_any(source, catalog))
                if raised(watch_of, *arguments) is None:
                    for entry in watch_of(*arguments):
                        self.assertEqual(write_entry(entry), slow_entry(entry))
                        seen.setdefault(write_entry(entry), entry)
                        self.assertEqual(seen[write_entry(entry)], entry)
        self.assertEqual({entry[0] for entry in seen.values()}, set("at free column bare columns function unmade right rule".split()))


def slow_entry(entry):
    """Return the text of an entry, put together of its words."""
    words = [entry[0]]
    rest = list(entry[1:])
    if entry[0] in ("at", "free", "function", "unmade"):
        words.append(rest.pop(0) + "." + rest.pop(0))
    for part in rest:
        if entry[0] == "columns" and isinstance(part, tuple):
            words += [str(word) for pair in part for word in pair]
        elif entry[0] == "rule" and isinstance(part, tuple):
            words += [str(part[0]), "(" + ", ".join(["'" + value + "'" for value in part[1]]) + ")"]
        elif isinstance(part, tuple):
            words.append("(" + ", ".join(part) + ")")
        else:
            words.append("none" if part is None else str(part))
    return " ".join(words)


NAME = "((?!(?:select|distinct|as|from|where|and|in)(?![a-z]))[a-z]{1,8})"
PLACE = NAME + r"\." + NAME
BARE = NAME.replace("((?!", "(?:(?!")
NAMES = rf"\(({BARE}(?:, {BARE})*)\)"
VALUES = r"\(('[a-z]{1,8}'(?:, '[a-z]{1,8}')*)\)"
FACT = rf"(key {NAMES}|in {NAME} {VALUES}|ref {NAMES} {PLACE} {NAMES})"
PATTERNS = [
    ("table", rf"create table {PLACE} \(({BARE} {BARE}(?:, {BARE} {BARE})*)\)"),
    ("view", rf"create view {PLACE} \(((?:{BARE}(?:, {BARE})*)?)\) as (.*)"),
    ("function", rf"create function {PLACE} {NAMES} {NAME}"),
    ("drop", rf"drop {PLACE}"),
    ("drop function", rf"drop function {PLACE} {NAMES}"),
    ("rename", rf"rename {PLACE} to {NAME}"),
    ("rename function", rf"rename function {PLACE} {NAMES} to {NAME}"),
    ("rename column", rf"rename column {PLACE}\.{NAME} to {NAME}"),
    ("column", rf"add column {PLACE}\.{NAME} {NAME}"),
    ("drop column", rf"drop column {PLACE}\.{NAME}"),
    ("fact", rf"add fact {PLACE} {FACT}"),
    ("drop fact", rf"drop fact {PLACE} {FACT}"),
    ("grant", rf"grant {PLACE} {NAME}"),
    ("revoke", rf"revoke {PLACE} {NAME}"),
    ("rule", rf"set rule {PLACE} {NAME} {NAME} {VALUES}"),
    ("drop rule", rf"drop rule {PLACE} {NAME}"),
]


def words_in(text):
    return tuple(text.replace("'", "").split(", ")) if text else ()


def slow_fact(text):
    found = re.fullmatch(FACT, text).groups()
    if text.startswith("key"):
        return ("key", words_in(found[1]))
    if text.startswith("in"):
        return ("in", found[2], words_in(found[3]))
    return ("ref", words_in(found[4]), found[5], found[6], words_in(found[7]))


def slow_deed(text):
    """Return the deed with a text, or None, by patterns of whole texts."""
    for word, pattern in PATTERNS:
        found = re.fullmatch(pattern, text)
        if found is None:
            continue
        parts = list(found.groups())
        if word == "table":
            deed = (word, *parts[:2], tuple([tuple(pair.split(" ")) for pair in parts[2].split(", ")]))
        elif word == "view":
            if raised(read, parts[3]) is not None:
                return None
            deed = (word, *parts[:2], read(parts[3]), words_in(parts[2]))
        elif word in ("fact", "drop fact"):
            deed = (word, *parts[:2], slow_fact(parts[2]))
        elif word in ("grant", "revoke", "drop rule"):
            deed = (word, parts[2], *parts[:2])
        elif word == "rule":
            deed = (word, parts[2], *parts[:2], parts[3], words_in(parts[4]))
        elif word in ("function", "drop function", "rename function"):
            deed = (word, *parts[:2], words_in(parts[2]), *parts[3:])
        else:
            deed = (word, *parts)
        fits = oracles.deed_fits(deed)
        return deed if fits and (word != "view" or is_view_statement(deed[3])) else None
    return None
