"""[2], [20]: what is an integer, and what is a name."""

import copy
import unittest

from rowqueue.kinds import is_integer, is_name

OTHERS = [None, True, False, b"ab", [], ["a"], (), ("a",), {}, {"a": 1}, {1}, frozenset(), object(), int, str, len]


class Integers(unittest.TestCase):
    def test_integers(self):
        for thing in [0, 1, -1, 7, -(10**39), 10**40, 10**41, -(10**41), 10**5000]:
            self.assertIs(is_integer(thing), True)

    def test_others(self):
        for thing in OTHERS + ["0", "12", "", [1], (1,), {1: 1}]:
            self.assertIs(is_integer(thing), False)


class Names(unittest.TestCase):
    def test_names(self):
        for thing in ["a", "z", "ab", "name", "abcdefgh", "zzzzzzzz", "opens"]:
            self.assertIs(is_name(thing), True)

    def test_lengths(self):
        self.assertIs(is_name(""), False)
        self.assertIs(is_name("abcdefghi"), False)
        self.assertIs(is_name("a" * 90000), False)

    def test_each_sign_counts(self):
        for word in ["a", "abcd", "abcdefgh"]:
            for at in range(len(word)):
                for sign in ["A", "Z", "0", "9", " ", "\n", "_", "`", "{", "-", "\u00e4", "\u00df", "\u0430", "\u00aa"]:
                    self.assertIs(is_name(word[:at] + sign + word[at + 1 :]), False)
        self.assertIs(is_name("abc\n"), False)
        self.assertIs(is_name(" a"), False)

    def test_others(self):
        for thing in OTHERS + [0, 5, -3, 10**50, ["a", "b"], ("a", "b")]:
            self.assertIs(is_name(thing), False)


class Both(unittest.TestCase):
    def test_what_was_passed_in_stays(self):
        for thing in [["a", ["b"]], {"a": [1]}, ([1],)]:
            before = copy.deepcopy(thing)
            is_integer(thing)
            is_name(thing)
            self.assertEqual(thing, before)


if __name__ == "__main__":
    unittest.main()
