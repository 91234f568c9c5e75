"""[19], and the names, values and integers of [2]."""

import unittest

from boundonce.forms import is_number
from boundonce.names import is_name, is_value, is_values
from tests import oracles, samples


class NamesTest(unittest.TestCase):
    def test_names_by_length(self):
        for word in ("a", "z", "ab", "abcdefg", "abcdefgh", "zzzzzzzz"):
            self.assertIs(is_name(word), True, word)
            self.assertIs(is_value(word), True, word)
        for word in ("", "abcdefghi", "a" * 1000):
            self.assertIs(is_name(word), False, word)
            self.assertIs(is_value(word), False, word)

    def test_reserved_words_are_values_and_no_names(self):
        for word in ("select", "distinct", "as", "from", "where", "and", "in"):
            self.assertIs(is_name(word), False, word)
            self.assertIs(is_value(word), True, word)
        for word in ("selects", "distinc", "a", "ass", "form", "were", "an", "i", "inn", "or", "not"):
            self.assertIs(is_name(word), True, word)

    def test_each_letter_and_no_other_sign(self):
        for code in range(128):
            sign = chr(code)
            for word in (sign, "a" + sign, sign + "a"):
                self.assertIs(is_name(word) or word in ("as", "in"), sign in samples.LETTERS, repr(word))
                self.assertIs(is_value(word), sign in samples.LETTERS, repr(word))

    def test_values_by_length(self):
        letters = tuple("abcdefghi")
        for size in range(10):
            self.assertIs(is_values(letters[:size]), 1 <= size <= 8, size)

    def test_values_ascend_and_differ(self):
        self.assertIs(is_values(("a", "b", "select")), True)
        self.assertIs(is_values(("b", "ba")), True)
        for thing in (("b", "a"), ("a", "a"), ("a", "b", "b"), ("a", "c", "b"), ("ba", "b")):
            self.assertIs(is_values(thing), False, thing)

    def test_values_are_a_tuple_of_values(self):
        for thing in (["a", "b"], "ab", {"a": 1}, ("a", 1), ("a", None), (True,), (("a",),), ("A",), ("abcdefghi",)):
            self.assertIs(is_values(thing), False, thing)

    def test_any_objects(self):
        for thing in samples.any_objects():
            self.assertIs(is_name(thing), oracles.matches("name", thing))
            self.assertIs(is_value(thing), oracles.matches("value", thing))
            self.assertIs(is_values(thing), oracles.values_fit(thing))
        for thing in samples.very_large_objects():
            self.assertEqual([is_name(thing), is_value(thing), is_values(thing)], [False, False, False])

    def test_variants_of_values(self):
        for thing in samples.variants(("a", "in", "ulm")):
            self.assertIs(is_values(thing), oracles.values_fit(thing), thing)

    def test_integers_are_no_bools(self):
        self.assertEqual([is_number(thing) for thing in (0, -1, 10**40, True, False, None, "1", (1,))],
                         [True, True, True, False, False, False, False, False])

    def test_by_name(self):
        self.assertIs(is_name(thing="a"), True)
        self.assertIs(is_value(thing="in"), True)
        self.assertIs(is_values(thing=("in",)), True)
