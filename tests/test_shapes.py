"""Rule 0.2: numbers, names and lots of names."""

import unittest

from lockwright.shapes import is_name, is_names, is_number, is_tuple_of, is_tuple_within, is_wanted
from samples import branching, nested, odd_things, odd_tuples


class ShapesTest(unittest.TestCase):
    def test_number(self):
        for thing in [0, 1, 10 ** 12]:
            self.assertIs(is_number(thing), True)
        for thing in [-1, True, False, None, "1", b"1", (1,), [1]]:
            self.assertIs(is_number(thing), False)

    def test_name(self):
        for thing in ["a", "z", "app", "abcdefghijkl"]:
            self.assertIs(is_name(thing), True)
        for thing in ["", "abcdefghijklm", "A", "aB", "a1", "a b", "a\n", "_", "`", "{", b"a", ("a",), "\u00e4", "\u00df"]:
            self.assertIs(is_name(thing), False)

    def test_names(self):
        for thing in [(), ("a",), ("a", "b"), ("a", "aa", "b")]:
            self.assertIs(is_names(thing), True)
        for thing in [("b", "a"), ("a", "a"), ["a"], "ab", ("a", ""), ("", "a"), ("a", 1), ("a", None), None]:
            self.assertIs(is_names(thing), False)

    def test_wanted(self):
        self.assertIs(is_wanted(("a", "b", "c", "d")), True)
        self.assertIs(is_wanted(("a", "b", "c", "d", "e")), False)
        self.assertIs(is_wanted(()), True)
        self.assertIs(is_wanted([]), False)

    def test_tuples(self):
        self.assertIs(is_tuple_of(2, (1, 2)), True)
        self.assertIs(is_tuple_of(2, (1,)), False)
        self.assertIs(is_tuple_of(2, [1, 2]), False)
        self.assertIs(is_tuple_of(2, "ab"), False)
        self.assertIs(is_tuple_within(2, ()), True)
        self.assertIs(is_tuple_within(2, (1, 2)), True)
        self.assertIs(is_tuple_within(2, (1, 2, 3)), False)
        self.assertIs(is_tuple_within(2, []), False)

    def test_anything_is_judged(self):
        for thing in odd_things() + odd_tuples() + [nested(40), branching(40)]:
            self.assertIs(is_name(thing), False)
            self.assertIs(is_names(thing), False)
            self.assertIs(is_wanted(thing), False)


if __name__ == "__main__":
    unittest.main()
