"""[8], [10] and [23]: the texts of statements."""

import random
import unittest

from boundonce.errors import InvalidText
from boundonce.statements import is_statement
from boundonce.texts import read, write
from tests import samples

NAME = ("column", (None, "name"), "name")
EMP = (None, "emp", "emp")

PAIRS = [
    ("select name from emp", (False, (NAME,), (EMP,), ())),
    ("select distinct name from emp", (True, (NAME,), (EMP,), ())),
    ("select emp.* from emp", (False, (("star", "emp"),), (EMP,), ())),
    ("select e.name from emp e", (False, (("column", ("e", "name"), "name"),), ((None, "emp", "e"),), ())),
    ("select name as who from emp", (False, (("column", (None, "name"), "who"),), (EMP,), ())),
    ("select e.name as e from main.emp e", (False, (("column", ("e", "name"), "e"),), (("main", "emp", "e"),), ())),
    ("select name, name from main.emp", (False, (NAME, NAME), (("main", "emp", "emp"),), ())),
    ("select name from main.emp, own.emp emps", (False, (NAME,), (("main", "emp", "emp"), ("own", "emp", "emps")), ())),
    ("select 'select' as a from emp", (False, (("term", "select", "a"),), (EMP,), ())),
    ("select f(name) as name from emp",
     (False, (("term", ("call", None, "f", ((None, "name"),)), "name"),), (EMP,), ())),
    ("select own.f(e.name, 'distinct') as f from emp e",
     (False, (("term", ("call", "own", "f", (("e", "name"), "distinct")), "f"),), ((None, "emp", "e"),), ())),
    ("select f(g(a.h('x'), 'in'), y) as z from emp",
     (False, (("term", ("call", None, "f", (("call", None, "g", (("call", "a", "h", ("x",)), "in")), (None, "y"))), "z"),),
      (EMP,), ())),
    ("select name from emp where name = emp.boss", (False, (NAME,), (EMP,), (("equal", (None, "name"), ("emp", "boss")),))),
    ("select name from emp e where e.name in ('in')",
     (False, (NAME,), ((None, "emp", "e"),), (("in", ("e", "name"), ("in",)),))),
    ("select name from emp where name in ('a', 'b', 'where') and a = b and emp.x = y",
     (False, (NAME,), (EMP,), (("in", (None, "name"), ("a", "b", "where")), ("equal", (None, "a"), (None, "b")),
                               ("equal", ("emp", "x"), (None, "y"))))),
    ("select call.star as column, term.* from call.term where star in ('as')",
     (False, (("column", ("call", "star"), "column"), ("star", "term")), (("call", "term", "term"),),
      (("in", (None, "star"), ("as",)),))),
]

LONGEST = ("select distinct "
           + ", ".join(["abcdefgh.a(abcdefgh.b(abcdefgh.c('abcdefgh', a.b), x), 'distinct') as abcdefgh"] * 8)
           + " from main.abcdefgh abcdefga, main.abcdefgh abcdefgb, main.abcdefgh abcdefgc, main.abcdefgh where "
           + " and ".join(["abcdefgh.abcdefgh in ('a', 'b', 'c', 'd', 'e', 'f', 'g', 'h')"] * 8))

WRONG = [
    "", " ", "select", "select ", "select name", "select name from", "select name from ", "name from emp", "from emp",
    "select from emp", "select  from emp", "select name emp", "select name from emp where", "select name from emp where ",
    "select name from emp and a = b", "select name from emp where a", "select name from emp where a =",
    "select name from emp where a = ", "select name from emp where = a", "select name from emp where a = 'b'",
    "select name from emp where 'a' = b", "select name from emp where f(a) = b", "select name from emp where a = f(b)",
    "select name from emp where a in", "select name from emp where a in ()", "select name from emp where a in ('b'",
    "select name from emp where a in 'b'", "select name from emp where a in (b)", "select name from emp where a in ('b',)",
    "select name from emp where a in ('b','c')", "select name from emp where a in ('c', 'b')",
    "select name from emp where a in ('b', 'b')", "select name from emp where a in ('b') and",
    "select name from emp where a in ('b') and ", "select name from emp where a = b, c = d",
    "select name from emp where a in ('b', )", "select name from emp where a in ( 'b')", "select name from emp where a in('b')",
    "select name from emp where a=b", "select name from emp where a == b", "select name from emp where a.b.c = d",
    "select name from emp where where = b", "select name from emp where and = b", "select name from emp where a.* = b",
    "Select name from emp", "SELECT name FROM emp", "select name from emp ", " select name from emp", "select name from emp\n",
    "select name  from emp", "select  name from emp", "select name from  emp", "select name from emp  e", "select\tname from emp",
    "select name\nfrom emp", "select name ,name from emp", "select name,name from emp", "select name,  name from emp",
    "select name, from emp", "select , name from emp", "select name, name, from emp", "select name from emp,",
    "select name from emp, ", "select name from , emp", "select name from emp,dept", "select name from emp emp",
    "select name from main.emp emp", "select name from emp as e", "select name from emp e e", "select name from emp e.e",
    "select name from emp, emp", "select name from emp, dept emp", "select name from emp e, dept e",
    "select name from a, b, c, d, e", "select name from main.own.emp", "select name from .emp", "select name from main.",
    "select name from main . emp", "select name from emp.*", "select name from 'emp'", "select name from f(emp)",
    "select name as name from emp", "select emp.name as name from emp", "select name as from emp", "select name as  a from emp",
    "select name who from emp", "select name as who as you from emp", "select name as 'who' from emp",
    "select name as e.who from emp", "select * from emp", "select emp.* as e from emp", "select main.emp.* from emp",
    "select emp. * from emp", "select emp .* from emp", "select 'x'.* from emp", "select emp.** from emp", "select .* from emp",
    "select a.b.c from emp", "select a. b from emp", "select .a from emp", "select a. from emp",
    "select 'x' from emp", "select x' as a from emp", "select 'x as a from emp", "select '' as a from emp",
    "select 'X' as a from emp", "select 'a b' as a from emp", "select 'abcdefghi' as a from emp", "select \"x\" as a from emp",
    "select 'x''y' as a from emp", "select x'y' as a from emp", "select 'x'y as a from emp",
    "select f(a) from emp", "select f() as a from emp", "select f(a as a from emp", "select f a) as a from emp",
    "select f(a, b, c) as a from emp", "select f(a,b) as a from emp", "select f(a, ) as a from emp", "select f(, a) as a from emp",
    "select f( a) as a from emp", "select f(a ) as a from emp", "select f (a) as a from emp", "select f(a)as a from emp",
    "select f(a.*) as a from emp", "select f(a as b) as a from emp", "select f(g(h(k(a)))) as a from emp",
    "select f('v', g(h(k('v')))) as a from emp", "select a.b.f(x) as a from emp", "select 'f'(x) as a from emp",
    "select f(a)(b) as a from emp", "select (a) as a from emp", "select f((a)) as a from emp", "select f(a)) as a from emp",
    "select select from emp", "select distinct from emp", "select distinct, a from emp", "select distinct distinct a from emp",
    "select distinctname from emp", "selectname from emp", "select distinct  name from emp", "distinct select name from emp",
    "select name from from", "select name from in", "select name from emp in", "select in from emp", "select as.name from emp",
    "select in.* from emp", "select in(a) as b from emp", "select and.f(a) as b from emp", "select name from where e",
    "select name from emp where.a = b", "select name from emp distinct", "select name as select from emp",
    "select abcdefghi from emp", "select name from abcdefghi", "select name from emp abcdefghi", "select Name from emp",
    "select name1 from emp", "select na_me from emp", "select name from emp;", "select name from emp where a = b;",
    "select name from emp -- e", "select name from emp where a = b or c = d", "select name from emp where (a = b)",
    "select name from emp where a in ('b') where c = d", "select name from emp from emp", "select name from emp where a = b from emp",
    "select " + ", ".join("a" * 9) + " from emp", "select name from emp where " + " and ".join(["a = b"] * 9),
    "select name from emp where a in ('a', 'b', 'c', 'd', 'e', 'f', 'g', 'h', 'i')",
]


class TextsTest(unittest.TestCase):
    def refuse(self, thing):
        with self.assertRaises(InvalidText, msg=samples.shown(thing)):
            read(thing)

    def test_pairs(self):
        for text, statement in PAIRS:
            self.assertIs(is_statement(statement), True, text)
            self.assertEqual(write(statement), text)
            told = read(text)
            self.assertEqual(told, statement)
            self.assertEqual(repr(told), repr(statement))

    def test_the_longest(self):
        self.assertIs(is_statement(read(LONGEST)), True)
        self.assertEqual(write(read(LONGEST)), LONGEST)
        for more in (" and a = b", ", a", "'", " "):
            self.refuse(LONGEST + more)

    def test_wrong_texts(self):
        for text in WRONG:
            self.refuse(text)

    def test_eight_and_nine(self):
        for size in range(1, 11):
            texts = ["select " + ", ".join(["a"] * size) + " from emp",
                     "select a from emp where " + " and ".join(["a = b"] * size),
                     "select a from emp where a in (" + ", ".join(["'" + sign + "'" for sign in "abcdefghij"[:size]]) + ")"]
            for text in texts:
                if size <= 8:
                    self.assertEqual(write(read(text)), text)
                else:
                    self.refuse(text)
            text = "select a from " + ", ".join("abcdefghij"[:size])
            if size <= 4:
                self.assertEqual(len(read(text)[2]), size)
            else:
                self.refuse(text)

    def test_calls_within_one_another(self):
        for deepest in range(1, 8):
            for last in ("a", "'v'", "t.a"):
                text = "select " + "f(" * deepest + last + ")" * deepest + " as x from t"
                if deepest <= 3:
                    self.assertEqual(write(read(text)), text)
                else:
                    self.refuse(text)

    def test_read_is_the_other_way_round_than_write(self):
        source = random.Random(3)
        for at in range(1000):
            statement = samples.make_statement(source, plain=at % 2 == 0)
            before = repr(statement)
            text = write(statement)
            self.assertEqual(repr(read(text)), before)
            self.assertEqual(repr(statement), before)

    def test_unlike_statements_have_unlike_texts(self):
        source = random.Random(4)
        texts = {}
        for _ in range(1000):
            statement = samples.make_statement(source)
            self.assertEqual(texts.setdefault(write(statement), statement), statement)

    def test_texts_with_a_word_or_sign_exchanged(self):
        source = random.Random(5)
        refused = 0
        for text in [text for text, _ in PAIRS] * 60:
            words = split(text)
            at = source.randrange(len(words))
            other = source.choice(words + ["select ", "in", "name", "'v'", " as ", "(", "", " ", "x", ".*", "\n", "A", "1"])
            kind = source.randrange(4)
            if kind == 0:
                words[at] = other
            elif kind == 1:
                words.insert(at, other)
            elif kind == 2:
                del words[at]
            else:
                words[at] += words[at]
            refused += self.told_or_refused("".join(words))
        self.assertGreater(refused, 600)

    def told_or_refused(self, text):
        """Check that a text is that of the statement it reads as, or refused; return whether it is refused."""
        try:
            statement = read(text)
        except InvalidText:
            return True
        self.assertIs(is_statement(statement), True, text)
        self.assertEqual(write(statement), text)
        return False

    def test_each_sign_left_out_doubled_and_exchanged(self):
        for text, _ in PAIRS:
            for at in range(len(text)):
                for other in ("", text[at] * 2, " ", "a", "'", "(", ")", ",", ".", "*", "=", "A", "\n"):
                    self.told_or_refused(text[:at] + other + text[at + 1:])

    def test_a_blank_makes_another_text(self):
        for text, _ in PAIRS:
            for at in range(len(text) + 1):
                if text[:at].count("'") % 2 == 0 and not is_within_word(text, at):
                    self.refuse(text[:at] + " " + text[at:])

    def test_any_objects(self):
        for thing in samples.any_objects() + samples.very_large_objects():
            self.refuse(thing)
        self.refuse(b"select name from emp")
        self.refuse(["select name from emp"])

    def test_very_long_strings(self):
        many = 300000
        for text in ["(" * many, ")" * many, "select " * many, " " * many, "a" * many, "'" * many, "select " + "f(" * many,
                     "select " + "(" * many, "select " + "f(" * many + "a" + ")" * many + " as x from t",
                     "select f(a" + ")" * many + " as x from t", "select " + "a" * many, "select '" + "a" * many,
                     "select " + "a, " * many + "a from t", "select f(" + "a, " * many + "a) as x from t",
                     "select a from " + "t, " * many + "t", "select a from t where " + "a = b and " * many + "a = b",
                     "select a from t where a in (" + "'a', " * many + "'a')", "select a from t" + " " * many,
                     "select a from t" + "(" * many, "select a from t where a in (" * many, "select a" + ".a" * many,
                     "select a from t where a in " + "(" * many, "select " + "f(f(f(a, " * many, "select " + "f(a, " * many,
                     "select " + "f('v', " * many + "a" + ")" * many + " as x from t"]:
            self.refuse(text)

    def test_by_name(self):
        text, statement = PAIRS[0]
        self.assertEqual(write(statement=statement), text)
        self.assertEqual(read(text=text), statement)


def split(text):
    """Return a text's words and signs, which make it when they are joined."""
    words = [""]
    for sign in text:
        if words[-1].isalpha() and sign.isalpha():
            words[-1] += sign
        else:
            words.append(sign)
    return words[1:]


def is_within_word(text, at):
    """Return whether a blank at this place would cut a word in two, and so perhaps make other words."""
    return 0 < at < len(text) and text[at - 1].isalpha() and text[at].isalpha()
