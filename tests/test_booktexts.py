"""Promise 2.3: books as texts."""

import unittest

from lockwright.books import Book
from lockwright.booktexts import book_text, read_book
from lockwright.errors import BadLine
from lockwright.ranges import read_range
from samples import branching, chance, entry, nested, odd_things, odd_tuples, raised, some_range, some_version

WHOLE = Book((
    entry(
        "app", (1, 0, 0), (("db", ("log",)), ("gui", ("db", "log")), ("log", ())),
        (("", "lib", read_range("^1.0.0"), ()), ("gui", "kit", read_range("*"), ()),
         ("", "lib", read_range("!1.5.0"), ("fast",)), ("db", "sql", read_range("<0.0.0"), ("a", "b", "c", "d"))),
        (("old", read_range("1.0.0")), ("kit", read_range("<2.0.0 | 3.0.0"))),
    ),
    entry("app", (2, 0, 999999)),
    entry("lib", (1, 0, 0), (("fast", ()),)),
    entry("zoo", (0, 0, 0), (), (), (("app", read_range("*")),)),
))
TEXT = """package app 1.0.0
  feature db turns log
  feature gui turns db log
  feature log
  needs lib (>=1.0.0, <2.0.0)
  if gui needs kit (*)
  needs lib (>=0.0.0, <1.5.0 | >=1.5.1) with fast
  if db needs sql (<0.0.0) with a b c d
  bars old (1.0.0)
  bars kit (>=0.0.0, <2.0.0 | 3.0.0)
package app 2.0.999999
package lib 1.0.0
  feature fast
package zoo 0.0.0
  bars app (*)
"""


def number_of(text):
    """The number that BadLine tells for a text, None if it tells a book."""
    error = raised(BadLine, read_book, text)
    return None if error is None else error.number


def below(*lines):
    """A text with a package line, then these lines, and a last package line."""
    return "".join(f"{line}\n" for line in ("package app 1.0.0",) + lines + ("package zoo 1.0.0",))


def some_entry(dice, name, version):
    """An entry of free kind."""
    names = sorted(dice.sample(["a", "b", "c", "d", "e", "f"], dice.randint(0, 6)))
    features = tuple(
        (one, tuple(sorted(dice.sample([n for n in names if n != one], dice.randint(0, len(names) - 1))))) for one in names
    )
    others = [one for one in ["app", "lib", "zoo", "if", "needs", "turns", "with"] if one != name]
    needs = tuple(
        (dice.choice([""] + names), dice.choice(others), some_range(dice), tuple(sorted(dice.sample("pqrstu", dice.randint(0, 4)))))
        for _ in range(dice.randint(0, 8))
    )
    bars = tuple((dice.choice(others), some_range(dice)) for _ in range(dice.randint(0, 6)))
    return entry(name, version, features, needs, bars)


class BookTextTest(unittest.TestCase):
    def test_text(self):
        self.assertEqual(book_text(WHOLE), TEXT)
        self.assertEqual(read_book(TEXT), WHOLE)

    def test_no_entries(self):
        self.assertEqual(book_text(Book(())), "")
        self.assertEqual(read_book(""), Book(()))

    def test_there_and_back(self):
        dice = chance(4)
        for _ in range(120):
            places = sorted({(dice.choice(["app", "lib", "needs", "zoo"]), some_version(dice, 999999 if dice.random() < 0.2 else 2))
                             for _ in range(dice.randint(0, 8))})
            book = Book(tuple(some_entry(dice, name, version) for name, version in places))
            self.assertEqual(read_book(book_text(book)), book)

    def test_two_hundred_entries(self):
        book = Book(tuple(entry("app", (0, k, 0)) for k in range(200)))
        self.assertEqual(read_book(book_text(book)), book)

    def test_names_that_are_words_of_the_form(self):
        one = entry(
            "package", (1, 0, 0), (("if", ("needs", "turns", "with")), ("needs", ()), ("turns", ("with",)), ("with", ())),
            (("needs", "needs", read_range("*"), ("with",)), ("if", "if", read_range("*"), ()), ("", "if", (), ("needs",))),
            (("bars", read_range("*")), ("feature", read_range("*"))),
        )
        self.assertEqual(read_book(book_text(Book((one,)))), Book((one,)))

    def test_ranges_in_any_form(self):
        for text in ["^1.2.0, !1.5.0 | 0.0.7", "~1.2.3", "<=1.0.0", ">1.0.0", "*, *", ">=1.0.0 | *", "2.0.0 | 1.0.0", "<1.0.0, >2.0.0"]:
            rng = read_range(text)
            made = entry("app", (1, 0, 0), (("f", ()),), (("", "lib", rng, ()), ("f", "lib", rng, ("x",))), (("lib", rng),))
            lines = f"package app 1.0.0\n  feature f\n  needs lib ({text})\n  if f needs lib ({text}) with x\n  bars lib ({text})\n"
            self.assertEqual(read_book(lines), Book((made,)))


class BadLineTest(unittest.TestCase):
    def test_no_string(self):
        for thing in [None, b"", b"package app 1.0.0\n", [TEXT], (TEXT,), 0, True, {}, Book(()), nested(40), branching(40)]:
            self.assertEqual(number_of(thing), 0)
        for thing in odd_things() + odd_tuples():
            if not isinstance(thing, str):
                self.assertEqual(number_of(thing), 0)

    def test_package_lines_not_of_their_form(self):
        for line in [
            "", " ", "package", "package ", "package app", "package app ", "package app 1.0", "package app 1.0.0 ", "package app  1.0.0",
            "package  app 1.0.0", " package app 1.0.0", "package App 1.0.0", "package 1.0.0", "package app 01.0.0",
            "package app 1.0.0.0", "package app (1.0.0)", "package app ^1.0.0", "package abcdefghijklm 1.0.0", "Package app 1.0.0",
            "package app 1000000.0.0", "package app 0.1000000.0", "package app 0.0.1000000", "package app 1000001.0.0",
            "package app 1.0.-1", "package app lib 1.0.0", "app 1.0.0", "packages app 1.0.0", "x", "# none",
        ]:
            with self.subTest(line=line):
                self.assertEqual(number_of(line + "\n"), 1)
                self.assertEqual(number_of("package aaa 1.0.0\n" + line + "\npackage zoo 1.0.0\n"), 2)
        self.assertIsNone(number_of("package app 999999.999999.999999\n"))

    def test_lines_not_of_their_form(self):
        for line in [
            "feature f", " feature f", "   feature f", "\tfeature f", "  feature", "  feature ", "  feature  f", "  feature f ",
            "  feature F", "  feature f g", "  feature f turns", "  feature f turns ", "  feature f turns  g", "  feature f turns g  h",
            "  feature f turns g, h", "  feature f turns G", "  feature f turned g", "  feature f  turns g", "  Feature f",
            "  feature f turns g turns h", "  features f",
            "needs lib (*)", " needs lib (*)", "   needs lib (*)", "  needs", "  needs lib", "  needs lib ", "  needs lib *",
            "  needs lib (*", "  needs lib *)", "  needs lib(*)", "  needs lib  (*)", "  needs  lib (*)", "  needs (*)", "  needs lib ()",
            "  needs lib ( *)", "  needs lib (* )", "  needs lib (*) ", "  needs Lib (*)", "  needs lib ((*))", "  needs lib (*))",
            "  needs lib (01.0.0)", "  needs lib (1.0.1000000)", "  needs lib (*,*)", "  needs lib (*, x)", "  needs lib (*) with",
            "  needs lib (*) with ", "  needs lib (*) with  a", "  needs lib (*) with a  b", "  needs lib (*) with a,b",
            "  needs lib (*) with A", "  needs lib (*)with a", "  needs lib (*)a", "  needs lib (*)a b", "  needs lib (*)  with a", "  needs lib (*) wants a", "  needs lib (*) a",
            "  needs lib (*) with a with b", "  needs lib (*) (*)", "  needs f needs lib (*)",
            "  if needs lib (*)", "  if  needs lib (*)", "  if f lib (*)", "  if f  needs lib (*)", "  if f needs lib", "  if f bars lib (*)",
            "  if f g needs lib (*)", "if f needs lib (*)", "f needs lib (*)", "  f needs lib (*)", "  if F needs lib (*)", "  if f feature g",
            "bars lib (*)", " bars lib (*)", "  bars", "  bars lib", "  bars lib *", "  bars lib (*) with a", "  bars lib (*) with ",
            "  bars lib (*) ", "  bars Lib (*)", "  bars lib ()", "  bars  lib (*)", "  bars (*)", "  if f bars lib (*)", "  bar lib (*)",
            "  package zap 1.0.0", "  ", "", "  x",
        ]:
            with self.subTest(line=line):
                self.assertEqual(number_of(below("  feature f", line)), 3)
        self.assertIsNone(number_of(below("  feature f", "  needs lib (*)", "  if f needs lib (*) with a b", "  bars lib (*)")))

    def test_a_line_further_in_ahead_of_the_first_package(self):
        for line in ["  feature f", "  needs lib (*)", "  bars lib (*)", "  if f needs lib (*)"]:
            self.assertEqual(number_of(line + "\n"), 1)
            self.assertEqual(number_of(line + "\n" + TEXT), 1)

    def test_order_of_kinds(self):
        f, n, i, b = "  feature f", "  needs lib (*)", "  if e needs lib (*)", "  bars lib (*)"
        for lines, number in [
            (("  feature e", n, f), 4), (("  feature e", i, f), 4), (("  feature e", b, f), 4), (("  feature e", b, n), 4),
            (("  feature e", b, i), 4), ((n, b, n), 4), ((f, b, b, n), 5), ((f, n, b, f), 5),
        ]:
            self.assertEqual(number_of(below(*lines)), number)
        self.assertIsNone(number_of(below("  feature e", f, i, n, i, b, b)))

    def test_features_that_may_not_stand_there(self):
        many = [f"  feature {name}" for name in "abcdefg"]
        self.assertIsNone(number_of(below(*many[:6])))
        self.assertEqual(number_of(below(*many)), 8)
        self.assertEqual(number_of(below("  feature f", "  feature e")), 3)
        self.assertEqual(number_of(below("  feature f", "  feature f")), 3)
        self.assertEqual(number_of(below("  feature a", "  feature c", "  feature b")), 4)
        self.assertEqual(number_of(below("  feature f turns f")), 2)
        self.assertEqual(number_of(below("  feature e turns e f", "  feature f")), 2)
        self.assertEqual(number_of(below("  feature e turns g f", "  feature f", "  feature g")), 2)
        self.assertEqual(number_of(below("  feature e turns f f", "  feature f")), 2)
        self.assertEqual(number_of(below("  feature abcdefghijklm")), 2)
        self.assertIsNone(number_of(below("  feature abcdefghijkl")))

    def test_a_feature_turned_on_that_does_not_come(self):
        self.assertIsNone(number_of(below("  feature e turns f", "  feature f")))
        self.assertIsNone(number_of(below("  feature e", "  feature f turns e")))
        self.assertEqual(number_of(below("  feature e turns f")), 3)
        self.assertEqual(number_of(below("  feature e turns f", "  feature g", "  needs lib (*)", "  bars lib (*)")), 6)
        self.assertEqual(number_of(below("  feature f turns e", "  feature g turns h", "  needs lib (*)")), 5)
        self.assertEqual(number_of(below("  feature e turns f", "  needs lib ()")), 3)
        self.assertEqual(number_of("package app 1.0.0\n  feature e turns f\n"), 3)
        self.assertEqual(number_of("package app 1.0.0\n  feature e turns f\n  needs lib (*)\n"), 4)
        self.assertEqual(number_of("package app 1.0.0\n  feature e turns f\npackage bad\n"), 3)
        self.assertEqual(number_of("package app 1.0.0\n  feature e turns f\npackage app 2.0.0\n  feature f\n"), 3)
        self.assertEqual(number_of(below("  feature e turns a b c d f g")), 3)

    def test_needs_that_may_not_stand_there(self):
        need = "  needs lib (*)"
        self.assertIsNone(number_of(below(*[need] * 8)))
        self.assertEqual(number_of(below(*[need] * 9)), 10)
        self.assertEqual(number_of(below(need, "  needs app (*)")), 3)
        self.assertEqual(number_of(below("  feature f", "  if f needs app (*)")), 3)
        self.assertEqual(number_of(below("  feature f", "  if g needs lib (*)")), 3)
        self.assertEqual(number_of(below("  if f needs lib (*)")), 2)
        self.assertIsNone(number_of(below("  needs lib (*) with a b c d")))
        self.assertEqual(number_of(below("  needs lib (*) with a b c d e")), 2)
        self.assertEqual(number_of(below("  needs lib (*) with b a")), 2)
        self.assertEqual(number_of(below("  needs lib (*) with a a")), 2)

    def test_features_of_the_entry_ahead_do_not_count(self):
        text = "package app 1.0.0\n  feature f\n  needs lib (*)\n  bars lib (*)\npackage app 2.0.0\n"
        self.assertIsNone(number_of(text + "  feature f\n  if f needs lib (*)\n  bars lib (*)\n"))
        self.assertEqual(number_of(text + "  if f needs lib (*)\n"), 6)
        self.assertEqual(number_of(text + "  feature e turns f\n"), 7)

    def test_bars_that_may_not_stand_there(self):
        bar = "  bars lib (*)"
        self.assertIsNone(number_of(below(*[bar] * 6)))
        self.assertEqual(number_of(below(*[bar] * 7)), 8)
        self.assertEqual(number_of(below(bar, "  bars app (*)")), 3)

    def test_a_package_line_not_behind_the_one_ahead(self):
        for one, other in [("app 1.0.0", "app 1.0.0"), ("app 2.0.0", "app 1.0.0"), ("lib 1.0.0", "app 2.0.0"), ("app 10.0.0", "app 9.0.0")]:
            self.assertEqual(number_of(f"package {one}\n  feature f\npackage {other}\n"), 3)
        self.assertIsNone(number_of("package app 9.0.0\npackage app 10.0.0\npackage lib 0.0.0\n"))

    def test_the_201st_package_line(self):
        lines = [f"package app 0.0.{k}\n" for k in range(202)]
        self.assertIsNone(number_of("".join(lines[:200])))
        self.assertEqual(number_of("".join(lines)), 201)
        self.assertEqual(number_of("".join(lines[:200]) + "  feature f\n" + lines[200]), 202)

    def test_no_line_feed_at_the_end(self):
        self.assertEqual(number_of(TEXT[:-1]), 15)
        self.assertEqual(number_of(TEXT + "package zz 1.0.0"), 16)
        self.assertEqual(number_of("package app 1.0.0"), 1)
        self.assertEqual(number_of(" "), 1)
        self.assertEqual(number_of("x"), 1)
        self.assertEqual(number_of("\n"), 1)
        self.assertEqual(number_of(TEXT + "\n"), 16)
        self.assertEqual(number_of("x\npackage app 1.0.0"), 1)

    def test_the_first_wrong_line_of_several(self):
        self.assertEqual(number_of(TEXT + "x\ny\n"), 16)
        self.assertEqual(number_of("package app 1.0.0\n  feature f turns g\nx\npackage app 2.0.0\n"), 3)
        self.assertEqual(number_of("package app 1.0.0\nx\npackage app 1.0.0\n  needs"), 2)

    def test_other_ends_of_lines_are_signs(self):
        self.assertEqual(number_of("package app 1.0.0\r\n"), 1)
        self.assertEqual(number_of("package app 1.0.0\n\x0cpackage lib 1.0.0\n"), 2)


if __name__ == "__main__":
    unittest.main()
