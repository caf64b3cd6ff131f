"""Promises 2.1, 2.2 and, for their classes, 0.4: entries and books."""

import unittest

from lockwright.books import (
    Book, Entry, entry_of, offered, packages, turned, versions, with_entry, without,
)
from lockwright.errors import BadBook, BadEntry, NoEntry, NoFeatures, TooMany
from lockwright.ranges import read_range
from samples import EVERY, branching, entry, nested, odd_things, odd_tuples, raised

ANY = read_range("*")
FEATURES = (("a", ("b", "c")), ("b", ()), ("c", ("d",)), ("d", ()), ("e", ("a",)), ("f", ()))
NEEDS = (("", "lib", ANY, ()), ("a", "lib", (), ("x", "y")), ("", "aux", ANY, ("p", "q", "r", "s")))
BARS = (("old", ANY), ("new", ()))


def part_of(*arguments):
    """The part that BadEntry tells for these arguments, None if there is an entry."""
    error = raised(BadEntry, Entry, *arguments)
    return None if error is None else error.part


class Twin:
    """Has all that an entry has, and is none."""

    def __init__(self, like):
        for name, value in vars(like).items():
            setattr(self, name, value)


class EntryTest(unittest.TestCase):
    def test_attributes(self):
        one = Entry("app", (1, 2, 3), FEATURES, NEEDS, BARS)
        self.assertEqual(one.name, "app")
        self.assertEqual(one.version, (1, 2, 3))
        self.assertEqual(one.features, FEATURES)
        self.assertEqual(one.needs, NEEDS)
        self.assertEqual(one.bars, BARS)

    def test_equality(self):
        whole = ("app", (1, 2, 3), FEATURES, NEEDS, BARS)
        self.assertEqual(Entry(*whole), Entry(*whole))
        self.assertIs(Entry(*whole) == Entry(*whole), True)
        self.assertIs(Entry(*whole) != Entry(*whole), False)
        others = [
            ("apq",) + whole[1:], ("app", (1, 2, 4)) + whole[2:], ("app", (1, 2, 3), FEATURES[:5]) + whole[3:],
            whole[:3] + (NEEDS[:2], BARS), whole[:3] + (NEEDS[::-1], BARS), whole[:4] + ((),), whole[:4] + (BARS[:1],),
        ]
        for other in others:
            with self.subTest(other=other):
                self.assertIs(Entry(*whole) == Entry(*other), False)

    def test_equal_to_nothing_else(self):
        one = entry("app", (1, 0, 0))
        for thing in odd_things() + [Twin(one), ("app", (1, 0, 0), (), (), ()), Book((one,)), nested(40), branching(40)]:
            self.assertIs(one == thing, False)
            self.assertIs(one != thing, True)

    def test_name(self):
        for name in ["a", "zzzzzzzzzzzz"]:
            self.assertIsNone(part_of(name, (1, 0, 0), (), (), ()))
        for name in odd_things() + odd_tuples() + ["", "aaaaaaaaaaaaa", "Ab", "a b", "a-b", nested(40), branching(40)]:
            self.assertEqual(part_of(name, (1, 0, 0), (), (), ()), "name")

    def test_version(self):
        for version in [(0, 0, 0), (999999, 999999, 999999)]:
            self.assertIsNone(part_of("app", version, (), (), ()))
        for version in odd_things() + odd_tuples() + [
            (1000000, 0, 0), (0, 1000000, 0), (0, 0, 1000000), (-1, 0, 0), [1, 0, 0], (1, 0), (True, 0, 0), "1.0.0",
            nested(40), branching(40),
        ]:
            self.assertEqual(part_of("app", version, (), (), ()), "version")

    def test_features(self):
        six = tuple((name, ()) for name in "abcdef")
        cycle = (("a", ("b",)), ("b", ("a",)))
        for features in [(), six, FEATURES, cycle, (("a", ("b", "c", "d", "e", "f")),) + six[1:]]:
            self.assertIsNone(part_of("app", (1, 0, 0), features, (), ()))
        for features in [
            six + (("g", ()),), six[::-1], (six[0], six[0]), [], list(six), (["a", ()],), (("a", []),), (("a",),),
            (("a", (), ()),), (("A", ()),), (("", ()),), ((1, ()),), (("a", ("b",)),), (("a", ("a",)),),
            (("a", ("c", "b")), ("b", ()), ("c", ())), (("a", ("b", "b")), ("b", ())), (("a", "b"), ("b", ())),
            (("a", ()), ("b", ("c",))), (("b", ()), ("a", ())), (("a", ()), ("a", ("b",)), ("b", ())), "ab", ("ab",),
            (("a", None),), (("a", (1,)),), {"a": ()},
        ]:
            with self.subTest(features=features):
                self.assertEqual(part_of("app", (1, 0, 0), features, (), ()), "features")
        for thing in odd_things() + [nested(40), branching(40)]:
            self.assertEqual(part_of("app", (1, 0, 0), thing, (), ()), "features")
            self.assertEqual(part_of("app", (1, 0, 0), (thing,), (), ()), "features")
            self.assertEqual(part_of("app", (1, 0, 0), ((thing, ()),), (), ()), "features")
            self.assertEqual(part_of("app", (1, 0, 0), (("a", thing),), (), ()), "features")
            self.assertEqual(part_of("app", (1, 0, 0), (("a", (thing,)),), (), ()), "features")

    def test_needs(self):
        one = ("", "lib", ANY, ())
        for needs in [(), (one,) * 8, NEEDS, (("f", "lib", ANY, ()),), (("", "lib", ANY, ("a", "b", "c", "d")),)]:
            self.assertIsNone(part_of("app", (1, 0, 0), FEATURES, needs, ()))
        for needs in [(one,) * 9, [], [one], None, "needs", {}, 0] + odd_things():
            self.assertEqual(part_of("app", (1, 0, 0), FEATURES, needs, ()), "needs")
        for wrong in [
            list(one), one[:3], one + ((),), ("g", "lib", ANY, ()), ("A", "lib", ANY, ()), (None, "lib", ANY, ()),
            ("", "app", ANY, ()), ("", "", ANY, ()), ("", "Lib", ANY, ()), ("", None, ANY, ()), ("", "lib", "*", ()),
            ("", "lib", None, ()), ("", "lib", [], ()), ("", "lib", ((ANY[0]), (ANY[0])), ()), ("", "lib", ANY, []),
            ("", "lib", ANY, ("a", "b", "c", "d", "e")), ("", "lib", ANY, ("b", "a")), ("", "lib", ANY, ("a", "a")),
            ("", "lib", ANY, "a"), ("", "lib", ANY, (1,)), ("", "lib", ANY, None), ("ab", "lib", ANY, ()), (("a",), "lib", ANY, ()),
        ]:
            with self.subTest(wrong=wrong):
                self.assertEqual(part_of("app", (1, 0, 0), FEATURES, (wrong,), ()), ("need", 0))
                self.assertEqual(part_of("app", (1, 0, 0), FEATURES, (one, one, wrong, wrong), ()), ("need", 2))
        self.assertEqual(part_of("app", (1, 0, 0), FEATURES, (one,) * 7 + (None,), ()), ("need", 7))
        self.assertEqual(part_of("app", (1, 0, 0), FEATURES, (None,) * 9, ()), "needs")
        for thing in odd_things() + odd_tuples() + [nested(40), branching(40)]:
            self.assertEqual(part_of("app", (1, 0, 0), (), (thing,), ()), ("need", 0))
            self.assertEqual(part_of("app", (1, 0, 0), (), ((thing, "lib", ANY, ()),), ()), ("need", 0))
            self.assertEqual(part_of("app", (1, 0, 0), (), (("", thing, ANY, ()),), ()), ("need", 0))
            self.assertEqual(part_of("app", (1, 0, 0), (), (("", "lib", thing, ()),), ()), ("need", 0))
            self.assertEqual(part_of("app", (1, 0, 0), (), (("", "lib", ANY, thing),), ()), ("need", 0))

    def test_bars(self):
        one = ("old", ANY)
        for bars in [(), (one,) * 6, BARS, (("old", (((0, 0, 0), (1000000, 0, 0)),)),)]:
            self.assertIsNone(part_of("app", (1, 0, 0), (), (), bars))
        for bars in [(one,) * 7, [], [one], None, "bars", {}, 0] + odd_things():
            self.assertEqual(part_of("app", (1, 0, 0), (), (), bars), "bars")
        for wrong in [
            list(one), ("old",), ("old", ANY, ()), ("app", ANY), ("", ANY), ("Old", ANY), (None, ANY), ("old", "*"),
            ("old", None), ("old", []), ("old", ANY[0]), ("old", (((1, 0, 0), (1, 0, 0)),)),
        ]:
            with self.subTest(wrong=wrong):
                self.assertEqual(part_of("app", (1, 0, 0), (), (), (wrong,)), ("bar", 0))
                self.assertEqual(part_of("app", (1, 0, 0), (), (), (one, one, wrong, wrong)), ("bar", 2))
        for thing in odd_things() + odd_tuples() + [nested(40), branching(40)]:
            self.assertEqual(part_of("app", (1, 0, 0), (), (), (thing,)), ("bar", 0))
            self.assertEqual(part_of("app", (1, 0, 0), (), (), ((thing, ANY),)), ("bar", 0))
            self.assertEqual(part_of("app", (1, 0, 0), (), (), (("old", thing),)), ("bar", 0))

    def test_the_first_part_that_is_none(self):
        wrong = ["", (), (("a", ("b",)),), ((),), ((),)]
        right = ["app", (1, 0, 0), (), (), ()]
        parts = ["name", "version", "features", ("need", 0), ("bar", 0)]
        for k in range(5):
            self.assertEqual(part_of(*right[:k], *wrong[k:]), parts[k])
        self.assertEqual(part_of("app", (1, 0, 0), (), ((),), None), ("need", 0))
        self.assertEqual(part_of("app", (1, 0, 0), (), None, ((),)), "needs")

    def test_offered(self):
        self.assertEqual(offered(entry("app", (1, 0, 0), FEATURES)), ("a", "b", "c", "d", "e", "f"))
        self.assertEqual(offered(entry("app", (1, 0, 0))), ())

    def test_turned(self):
        one = entry("app", (1, 0, 0), FEATURES)
        for features, held in [
            ((), ()), (("b",), ("b",)), (("c",), ("c", "d")), (("a",), ("a", "b", "c", "d")),
            (("e",), ("a", "b", "c", "d", "e")), (("d", "f"), ("d", "f")), (("c", "f"), ("c", "d", "f")),
            (("a", "b", "c", "d", "e", "f"), ("a", "b", "c", "d", "e", "f")),
        ]:
            self.assertEqual(turned(one, features), held)
        ring = entry("app", (1, 0, 0), (("a", ("b",)), ("b", ("c",)), ("c", ("a",)), ("d", ())))
        self.assertEqual(turned(ring, ("b",)), ("a", "b", "c"))
        self.assertEqual(turned(ring, ("d",)), ("d",))

    def test_turned_no_features(self):
        one = entry("app", (1, 0, 0), FEATURES)
        for thing in [["a"], ("g",), ("a", "g"), ("b", "a"), ("a", "a"), "a", None, ("",), (1,), (("a",),), {"a": 1}]:
            self.assertIsNotNone(raised(NoFeatures, turned, one, thing))
        for thing in odd_things() + odd_tuples() + [nested(40), branching(40)]:
            self.assertIsNotNone(raised(NoFeatures, turned, one, thing))
        self.assertIsNotNone(raised(NoFeatures, turned, entry("app", (1, 0, 0)), ("a",)))


class BookTest(unittest.TestCase):
    ENTRIES = (
        entry("app", (1, 0, 0)), entry("app", (2, 0, 0)), entry("app", (10, 0, 0)), entry("lib", (0, 9, 0)),
        entry("zoo", (1, 1, 1)),
    )

    def index_of(self, entries):
        error = raised(BadBook, Book, entries)
        return None if error is None else error.index

    def many(self, most):
        return tuple(entry("app", (0, 0, k)) for k in range(most))

    def test_attribute_and_equality(self):
        book = Book(self.ENTRIES)
        self.assertEqual(book.entries, self.ENTRIES)
        self.assertEqual(book, Book(tuple(entry(one.name, one.version) for one in self.ENTRIES)))
        self.assertIs(book == Book(self.ENTRIES[1:]), False)
        self.assertIs(book != Book(self.ENTRIES), False)
        self.assertEqual(Book(()), Book(()))
        other = self.ENTRIES[:4] + (entry("zoo", (1, 1, 1), (("a", ()),)),)
        self.assertIs(book == Book(other), False)
        for thing in odd_things() + [Twin(book), self.ENTRIES, self.ENTRIES[0], nested(40), branching(40)]:
            self.assertIs(book == thing, False)

    def test_no_tuple_of_so_many(self):
        for thing in odd_things() + [list(self.ENTRIES), self.many(201), "", {}, nested]:
            self.assertEqual(self.index_of(thing), -1)
        self.assertEqual(self.index_of((None,) * 201), -1)
        self.assertIsNone(self.index_of(self.many(200)))
        self.assertIsNone(self.index_of(()))

    def test_first_wrong_index(self):
        a, b, c, lib, zoo = self.ENTRIES
        for entries, index in [
            ((None,), 0), ((a, None), 1), ((a, a), 1), ((b, a), 1), ((a, c, b), 2), ((a, lib, b), 2), ((zoo, a, None), 1),
            ((a, b, c, lib, zoo, None), 5), ((a, Twin(b)), 1), ((a, entry("app", (1, 0, 0), (("f", ()),))), 1),
            (("app", (1, 0, 0)), 0), ((Book(()),), 0), ((a, (b,)), 1),
        ]:
            self.assertEqual(self.index_of(entries), index)
        for thing in odd_things() + odd_tuples() + [nested(39), branching(39)]:
            if thing != entry("lib", (1, 2, 0)):
                self.assertEqual(self.index_of((a, thing, thing)), 1)

    def test_packages_and_versions(self):
        book = Book(self.ENTRIES)
        self.assertEqual(packages(book), ("app", "lib", "zoo"))
        self.assertEqual(packages(Book(())), ())
        self.assertEqual(packages(Book(tuple(entry(name, (1, 0, 0)) for name in "abcdefghijklmnop"))), tuple("abcdefghijklmnop"))
        self.assertEqual(versions(book, "app"), ((10, 0, 0), (2, 0, 0), (1, 0, 0)))
        self.assertEqual(versions(book, "lib"), ((0, 9, 0),))
        self.assertEqual(versions(book, "none"), ())
        self.assertEqual(versions(Book(()), "app"), ())

    def test_entry_of(self):
        book = Book(self.ENTRIES)
        self.assertIs(entry_of(book, "app", (2, 0, 0)), self.ENTRIES[1])
        self.assertIs(entry_of(book, "zoo", (1, 1, 1)), self.ENTRIES[4])
        for name, version in [
            ("app", (3, 0, 0)), ("lib", (1, 0, 0)), ("none", (1, 0, 0)), ("app", (True, 0, 0)), ("app", (1, 0, False)),
            ("zoo", (True, True, True)), ("app", [1, 0, 0]), ("app", "1.0.0"), ("app", None), (b"app", (1, 0, 0)),
            (None, (1, 0, 0)), (["app"], (1, 0, 0)), (("app",), (1, 0, 0)),
        ]:
            self.assertIsNotNone(raised(NoEntry, entry_of, book, name, version))
            self.assertIsNotNone(raised(NoEntry, without, book, name, version))
        for thing in odd_things() + odd_tuples() + [nested(40), branching(40)]:
            self.assertIsNotNone(raised(NoEntry, entry_of, book, thing, (1, 0, 0)))
            self.assertIsNotNone(raised(NoEntry, entry_of, book, "app", thing))
            self.assertIsNotNone(raised(NoEntry, without, book, thing, (1, 0, 0)))
            self.assertIsNotNone(raised(NoEntry, without, book, "app", thing))

    def test_with_entry(self):
        book = Book(self.ENTRIES)
        for one, at in [
            (entry("aaa", (9, 0, 0)), 0), (entry("app", (1, 5, 0)), 1), (entry("app", (11, 0, 0)), 3), (entry("zoo", (2, 0, 0)), 5),
        ]:
            made = with_entry(book, one)
            self.assertEqual(made.entries, self.ENTRIES[:at] + (one,) + self.ENTRIES[at:])
            self.assertIsInstance(made, Book)
        one = entry("app", (2, 0, 0), (("f", ()),))
        self.assertEqual(with_entry(book, one).entries, (self.ENTRIES[0], one) + self.ENTRIES[2:])
        self.assertEqual(with_entry(Book(()), one).entries, (one,))
        self.assertEqual(book, Book(self.ENTRIES))
        self.assertIs(book.entries, self.ENTRIES)

    def test_with_entry_too_many(self):
        full = Book(self.many(200))
        for one in [entry("app", (0, 0, 200)), entry("aaa", (0, 0, 0)), entry("zoo", (0, 0, 0))]:
            self.assertEqual(raised(TooMany, with_entry, full, one).most, 200)
        one = entry("app", (0, 0, 77), (("f", ()),))
        made = with_entry(full, one)
        self.assertEqual(len(made.entries), 200)
        self.assertEqual(made.entries[77], one)
        self.assertEqual(full, Book(self.many(200)))
        self.assertEqual(len(with_entry(Book(self.many(199)), entry("zoo", (0, 0, 0))).entries), 200)

    def test_without(self):
        book = Book(self.ENTRIES)
        for at, one in enumerate(self.ENTRIES):
            made = without(book, one.name, one.version)
            self.assertIsInstance(made, Book)
            self.assertEqual(made.entries, self.ENTRIES[:at] + self.ENTRIES[at + 1:])
        self.assertEqual(book, Book(self.ENTRIES))
        self.assertEqual(without(Book(self.ENTRIES[:1]), "app", (1, 0, 0)), Book(()))

    def test_needs_may_name_what_the_book_lacks(self):
        one = entry("app", (1, 0, 0), (), (("", "none", EVERY, ("x",)),), (("gone", EVERY),))
        self.assertEqual(Book((one,)).entries, (one,))


class NothingIsChangedTest(unittest.TestCase):
    def test_wrong_arguments_stay(self):
        features, needs, entries = [["a", []]], [["", "lib", [], []]], [entry("app", (1, 0, 0))]
        raised(BadEntry, Entry, "app", (1, 0, 0), features, (), ())
        raised(BadEntry, Entry, "app", (1, 0, 0), (), needs, ())
        raised(BadBook, Book, entries)
        self.assertEqual(features, [["a", []]])
        self.assertEqual(needs, [["", "lib", [], []]])
        self.assertEqual(entries, [entry("app", (1, 0, 0))])


if __name__ == "__main__":
    unittest.main()
