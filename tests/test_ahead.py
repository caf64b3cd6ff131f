"""Promise 3.3: choices, priority, and what is ahead; and the examples e02 and e03."""

import unittest

from lockwright.ahead import choices, is_ahead, priority
from lockwright.books import Book, versions
from lockwright.booktexts import read_book
from lockwright.errors import NotRight
from lockwright.installations import core, fault, is_right
from lockwright.questions import Question, read_question
from lockwright.ranges import read_range
from samples import branching, chance, nested, odd_things, odd_tuples, raised
from worlds import all_installations, some_world

BOOK = read_book("""package app 1.0.0
  needs lib (*)
package app 2.0.0
  needs lib (*)
package aux 1.0.0
package lib 1.0.0
package lib 2.0.0
package lib 10.0.0
""")


class ExamplesTest(unittest.TestCase):
    def test_examples(self):
        b = read_book(
            "package app 1.0.0\n  needs lib (^1.0.0)\npackage app 2.0.0\n  needs lib (^2.0.0)\npackage lib 1.1.0\npackage lib 1.2.0\n"
        )
        q = Question((("app", read_range("*"), ()),), ())
        self.assertEqual(versions(b, "app"), ((2, 0, 0), (1, 0, 0)))
        self.assertEqual(priority(b, q), ("app", "lib"))
        self.assertEqual(choices(b, q, "lib"), (None, (1, 2, 0), (1, 1, 0)))
        self.assertIsNone(fault(b, q, (("app", (1, 0, 0), ()), ("lib", (1, 2, 0), ()))))
        self.assertEqual(fault(b, q, (("app", (2, 0, 0), ()),)), ("need", "app", 0))


class ChoicesTest(unittest.TestCase):
    def test_choices(self):
        newest, middle, oldest = (10, 0, 0), (2, 0, 0), (1, 0, 0)
        for text, told in [
            ("", (None, newest, middle, oldest)), ("lock lib 1.0.0\n", (None, oldest, newest, middle)),
            ("lock lib 2.0.0\n", (None, middle, newest, oldest)), ("lock lib 10.0.0\n", (None, newest, middle, oldest)),
            ("lock lib 3.0.0\n", (None, newest, middle, oldest)), ("lock app 1.0.0\n", (None, newest, middle, oldest)),
            ("wish lib (1.0.0)\n", (None, newest, middle, oldest)), ("lock app 2.0.0\nlock lib 1.0.0\n", (None, oldest, newest, middle)),
        ]:
            self.assertEqual(choices(BOOK, read_question(text), "lib"), told)
        self.assertEqual(choices(BOOK, read_question("lock gone 1.0.0\n"), "gone"), (None,))
        self.assertEqual(choices(Book(()), Question((), ()), "app"), (None,))

    def test_priority(self):
        for text, told in [
            ("", ("app", "aux", "lib")), ("wish lib (*)\n", ("lib", "app", "aux")), ("wish lib (*)\nwish app (*)\n", ("lib", "app", "aux")),
            ("wish lib (*)\nwish aux (*)\nwish lib (1.0.0)\n", ("lib", "aux", "app")), ("wish gone (*)\n", ("gone", "app", "aux", "lib")),
            ("wish lib (*)\nwish gone (*)\nwish lib (*)\nwish gone (*)\nwish app (*)\n", ("lib", "gone", "app", "aux")),
            ("lock lib 1.0.0\n", ("app", "aux", "lib")),
        ]:
            self.assertEqual(priority(BOOK, read_question(text)), told)
        self.assertEqual(priority(Book(()), Question((), ())), ())


class AheadTest(unittest.TestCase):
    def pair(self, app, lib):
        return (("app", (app, 0, 0), ()), ("lib", (lib, 0, 0), ()))

    def test_this_way_and_that(self):
        for text, one, other in [
            ("wish app (*)\n", (2, 1), (1, 10)), ("wish app (*)\n", (2, 10), (2, 2)), ("wish app (*)\n", (2, 2), (2, 1)),
            ("wish lib (*)\nwish app (*)\n", (1, 10), (2, 2)), ("wish lib (*)\nwish app (*)\n", (2, 10), (1, 10)),
            ("wish app (*)\nlock lib 1.0.0\n", (1, 1), (1, 10)), ("wish app (*)\nlock app 1.0.0\n", (1, 2), (2, 10)),
            ("wish app (*)\nlock lib 1.0.0\n", (2, 10), (2, 2)), ("wish app (*)\nlock lib 7.0.0\n", (2, 10), (2, 2)),
        ]:
            with self.subTest(text=text):
                question = read_question(text)
                self.assertIs(is_ahead(BOOK, question, self.pair(*one), self.pair(*other)), True)
                self.assertIs(is_ahead(BOOK, question, self.pair(*other), self.pair(*one)), False)
                self.assertIs(is_ahead(BOOK, question, self.pair(*one), self.pair(*one)), False)

    def test_wished_packages_count_first(self):
        book = read_book("package app 1.0.0\n  feature f\n  if f needs aux (*)\npackage aux 1.0.0\npackage zoo 1.0.0\n  needs app (*)\npackage zoo 2.0.0\n  needs app (*) with f\n")
        question = read_question("wish zoo (*)\n")
        small = (("app", (1, 0, 0), ()), ("zoo", (1, 0, 0), ()))
        large = (("app", (1, 0, 0), ("f",)), ("aux", (1, 0, 0), ()), ("zoo", (2, 0, 0), ()))
        self.assertIs(is_ahead(book, question, large, small), True)
        last = read_question("wish app (*)\nwish zoo (*)\nlock zoo 1.0.0\n")
        self.assertIs(is_ahead(book, last, small, large), True)
        self.assertIs(is_ahead(book, last, large, small), False)
        book = read_book("package a 1.0.0\npackage b 1.0.0\npackage b 2.0.0\n  needs a (*)\n")
        lone, two = (("b", (1, 0, 0), ()),), (("a", (1, 0, 0), ()), ("b", (2, 0, 0), ()))
        self.assertIs(is_ahead(book, read_question("wish b (*)\n"), two, lone), True)

    def test_absence_decides(self):
        book = read_book("package a 1.0.0\npackage b 1.0.0\n  needs c (*)\npackage c 1.0.0\n  needs a (*)\npackage c 2.0.0\n")
        question = read_question("wish b (*)\n")
        without = (("b", (1, 0, 0), ()), ("c", (2, 0, 0), ()))
        with_a = (("a", (1, 0, 0), ()), ("b", (1, 0, 0), ()), ("c", (1, 0, 0), ()))
        self.assertIs(is_ahead(book, question, without, with_a), True)
        self.assertIs(is_ahead(book, question, with_a, without), False)
        locked = read_question("wish b (*)\nlock c 1.0.0\n")
        self.assertIs(is_ahead(book, locked, without, with_a), True)
        wished = read_question("wish b (*)\nwish c (*)\nlock c 1.0.0\n")
        self.assertIs(is_ahead(book, wished, with_a, without), True)

    def test_not_right(self):
        question = read_question("wish app (*)\n")
        right = self.pair(1, 1)
        for thing in [(), right[:1], right[::-1], list(right), (right[0], ("aux", (1, 0, 0), ()), right[1]), self.pair(3, 1), None]:
            self.assertIsNotNone(raised(NotRight, is_ahead, BOOK, question, thing, right))
            self.assertIsNotNone(raised(NotRight, is_ahead, BOOK, question, right, thing))
            self.assertIsNotNone(raised(NotRight, is_ahead, BOOK, question, thing, thing))
        for thing in odd_things() + odd_tuples() + [nested(40), branching(40)]:
            self.assertIsNotNone(raised(NotRight, is_ahead, BOOK, question, thing, right))
            self.assertIsNotNone(raised(NotRight, is_ahead, BOOK, question, right, thing))

    def test_worlds(self):
        dice = chance(7)
        for _ in range(120):
            book, question = some_world(dice)
            right = [thing for thing in all_installations(book) if is_right(book, question, thing)]
            keys = [tuple(choices(book, question, name).index(dict((n, v) for n, v, _ in thing).get(name))
                          for name in priority(book, question)) for thing in right]
            self.assertEqual(len(set(keys)), len(keys))
            for one, mine in zip(right, keys):
                for other, theirs in zip(right, keys):
                    self.assertIs(is_ahead(book, question, one, other), mine < theirs)
            self.check_second_step(book, question)

    def check_second_step(self, book, question):
        """A core is the same, or lesser at the first choice that differs, or has fewer features."""
        for thing in all_installations(book):
            if (fault(book, question, thing) or ("unwanted",))[0] != "unwanted":
                continue
            left = core(book, question, thing)
            numbers = [[choices(book, question, name).index(dict((n, v) for n, v, _ in each).get(name))
                        for name in priority(book, question)] for each in (left, thing)]
            self.assertLessEqual(numbers[0], numbers[1])
            if numbers[0] == numbers[1]:
                self.assertTrue(all(set(a[2]) <= set(b[2]) for a, b in zip(left, thing)))


if __name__ == "__main__":
    unittest.main()
