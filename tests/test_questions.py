"""Promise 3.1: questions and their texts."""

import unittest

from lockwright.books import Book
from lockwright.errors import BadLine, BadQuestion
from lockwright.questions import Question, question_text, read_question
from lockwright.ranges import read_range
from samples import EVERY, branching, chance, nested, odd_things, odd_tuples, raised, some_range, some_version

WISHES = (("app", read_range("^1.0.0"), ()), ("lib", read_range("!2.0.0"), ("a", "b", "c", "d")), ("app", EVERY, ("f",)))
LOCKS = (("app", (1, 2, 3)), ("zoo", (1000000, 1000000, 1000000)))
TEXT = """wish app (>=1.0.0, <2.0.0)
wish lib (>=0.0.0, <2.0.0 | >=2.0.1) with a b c d
wish app (*) with f
lock app 1.2.3
lock zoo 1000000.1000000.1000000
"""


def many_locks(most):
    names = sorted("a" + first + second for first in "abcdefghij" for second in "abcde")
    return tuple((name, (1, 0, 0)) for name in names[:most])


def part_of(wishes, locks):
    error = raised(BadQuestion, Question, wishes, locks)
    return None if error is None else error.part


def number_of(text):
    error = raised(BadLine, read_question, text)
    return None if error is None else error.number


class Twin:
    def __init__(self, like):
        self.wishes = like.wishes
        self.locks = like.locks


class QuestionTest(unittest.TestCase):
    def test_attributes_and_equality(self):
        one = Question(WISHES, LOCKS)
        self.assertEqual(one.wishes, WISHES)
        self.assertEqual(one.locks, LOCKS)
        self.assertIs(one == Question(WISHES, LOCKS), True)
        self.assertIs(one != Question(WISHES, LOCKS), False)
        for other in [Question(WISHES[:2], LOCKS), Question(WISHES, LOCKS[:1]), Question((), ()), Question(WISHES[::-1], LOCKS)]:
            self.assertIs(one == other, False)
        for thing in odd_things() + [Twin(one), (WISHES, LOCKS), Book(()), nested(40), branching(40)]:
            self.assertIs(one == thing, False)
            self.assertIs(Question((), ()) == thing, False)

    def test_wishes(self):
        one = ("app", EVERY, ())
        for wishes in [(), (one,) * 8, WISHES, (("app", (), ()),)]:
            self.assertIsNone(part_of(wishes, ()))
        for thing in odd_things() + [(one,) * 9, [one], "", (None,) * 9, nested]:
            self.assertEqual(part_of(thing, ()), "wishes")
        for wrong in [
            ("app", EVERY), one + ((),), list(one), ("", EVERY, ()), ("App", EVERY, ()), (None, EVERY, ()), ("app", "*", ()),
            ("app", None, ()), ("app", EVERY[0], ()), ("app", EVERY, []), ("app", EVERY, ("a", "b", "c", "d", "e")),
            ("app", EVERY, ("b", "a")), ("app", EVERY, ("a", "a")), ("app", EVERY, "a"), ("app", EVERY, (1,)), None,
        ]:
            with self.subTest(wrong=wrong):
                self.assertEqual(part_of((wrong,), ()), ("wish", 0))
                self.assertEqual(part_of((one, one, wrong, wrong), ()), ("wish", 2))
        for thing in odd_things() + odd_tuples() + [nested(37), branching(37)]:
            self.assertEqual(part_of((thing,), ()), ("wish", 0))
            self.assertEqual(part_of(((thing, EVERY, ()),), ()), ("wish", 0))
            self.assertEqual(part_of((("app", thing, ()),), ()), ("wish", 0))
            self.assertEqual(part_of((("app", EVERY, thing),), ()), ("wish", 0))
        self.assertEqual(part_of((one,) * 7 + (None,), ()), ("wish", 7))

    def test_locks(self):
        for locks in [(), LOCKS, many_locks(40), (("app", (0, 0, 0)),)]:
            self.assertIsNone(part_of((), locks))
        for thing in odd_things() + [
            many_locks(41), list(LOCKS), LOCKS[::-1], (LOCKS[0], LOCKS[0]), (("app", (1, 0, 0)), ("app", (2, 0, 0))),
            (("app",),), (("app", (1, 0, 0), ()),), (["app", (1, 0, 0)],), (("", (1, 0, 0)),), (("App", (1, 0, 0)),),
            (("app", (1000001, 0, 0)),), (("app", [1, 0, 0]),), (("app", "1.0.0"),), (("app", (True, 0, 0)),), ((None, (1, 0, 0)),),
            "", nested, (LOCKS[0], None),
        ]:
            self.assertEqual(part_of((), thing), "locks")
        for thing in odd_things() + odd_tuples() + [nested(38), branching(38)]:
            self.assertEqual(part_of((), (thing,)), "locks")
            self.assertEqual(part_of((), ((thing, (1, 0, 0)),)), "locks")
            self.assertEqual(part_of((), (("app", thing),)), "locks")

    def test_the_first_part_that_is_none(self):
        self.assertEqual(part_of(None, None), "wishes")
        self.assertEqual(part_of((None,), None), ("wish", 0))
        self.assertEqual(part_of(WISHES, None), "locks")

    def test_wrong_arguments_stay(self):
        wishes, locks = [["app", [], []]], [["app", [1, 0, 0]]]
        part_of(wishes, ())
        part_of((), locks)
        self.assertEqual((wishes, locks), ([["app", [], []]], [["app", [1, 0, 0]]]))


class QuestionTextTest(unittest.TestCase):
    def test_text(self):
        self.assertEqual(question_text(Question(WISHES, LOCKS)), TEXT)
        self.assertEqual(read_question(TEXT), Question(WISHES, LOCKS))
        self.assertEqual(question_text(Question((), ())), "")
        self.assertEqual(read_question(""), Question((), ()))
        self.assertEqual(read_question("lock app 1.2.3\n"), Question((), LOCKS[:1]))
        self.assertEqual(question_text(Question((), LOCKS[:1])), "lock app 1.2.3\n")
        full = Question((("app", (), ()),) * 8, many_locks(40))
        self.assertEqual(read_question(question_text(full)), full)

    def test_there_and_back(self):
        dice = chance(5)
        for _ in range(200):
            wishes = tuple(
                (dice.choice(["app", "lib", "with", "wish", "lock"]), some_range(dice), tuple(sorted(dice.sample("abcdef", dice.randint(0, 4)))))
                for _ in range(dice.randint(0, 8))
            )
            names = sorted(dice.sample([name for name, _ in many_locks(50)], dice.randint(0, 40)))
            one = Question(wishes, tuple((name, some_version(dice, 1000000)) for name in names))
            self.assertEqual(read_question(question_text(one)), one)

    def test_ranges_in_any_form(self):
        for text in ["^1.2.0, !1.5.0 | 0.0.7", "~1.2.3", "<=1.0.0", ">1.0.0", "2.0.0 | 1.0.0"]:
            self.assertEqual(read_question(f"wish app ({text}) with f\n"), Question((("app", read_range(text), ("f",)),), ()))

    def test_no_string(self):
        for thing in [None, b"", [TEXT], (TEXT,), 0, True, {}, Question((), ()), nested(40), branching(40)]:
            self.assertEqual(number_of(thing), 0)
        for thing in odd_things() + odd_tuples():
            if not isinstance(thing, str):
                self.assertEqual(number_of(thing), 0)

    def test_lines_not_of_their_form(self):
        for line in [
            "", " ", "wish", "wish ", "wish app", "wish app *", "wish app (*", "wish app ()", "wish app (*) ", "wish app(*)", "wish  app (*)",
            "wish app  (*)", " wish app (*)", "  wish app (*)", "wish App (*)", "wish (*)", "wish app (01.0.0)", "wish app (1.0.1000000)",
            "wish app (*) with", "wish app (*) with ", "wish app (*) with b a", "wish app (*) with a a", "wish app (*) with a b c d e",
            "wish app (*) with  a", "wish app (*) with A", "wish app (*) a", "wish app (*)a", "wish app (*)a b", "wishes app (*)", "Wish app (*)", "needs app (*)", "app (*)",
            "wish abcdefghijklm (*)", "wish app (*) (*)",
            "lock", "lock ", "lock app", "lock app 1.0", "lock app 01.0.0", "lock app  1.0.0", " lock app 1.0.0", "lock app 1.0.0 ",
            "lock App 1.0.0", "lock app (1.0.0)", "lock app 1000001.0.0", "lock app 1.0.0 with f", "locks app 1.0.0", "lock 1.0.0",
            "package app 1.0.0", "app 1.0.0", "x",
        ]:
            with self.subTest(line=line):
                self.assertEqual(number_of(line + "\n"), 1)
                self.assertEqual(number_of("wish lib (*)\n" + line + "\nlock zoo 1.0.0\n"), 2)

    def test_lines_that_may_not_stand_there(self):
        self.assertEqual(number_of("lock app 1.0.0\nwish app (*)\n"), 2)
        self.assertEqual(number_of("wish app (*)\nlock app 1.0.0\nwish app (*)\n"), 3)
        self.assertEqual(number_of("lock app 1.0.0\nlock app 1.0.0\n"), 2)
        self.assertEqual(number_of("lock app 1.0.0\nlock app 2.0.0\n"), 2)
        self.assertEqual(number_of("lock lib 1.0.0\nlock app 1.0.0\n"), 2)
        self.assertEqual(number_of("lock app 1.0.0\nlock lib 1.0.0\nlock bin 1.0.0\n"), 3)
        self.assertIsNone(number_of("wish app (*)\n" * 8))
        self.assertEqual(number_of("wish app (*)\n" * 9), 9)
        lines = [f"lock {name} 1.0.0\n" for name, _ in many_locks(42)]
        self.assertIsNone(number_of("".join(lines[:40])))
        self.assertEqual(number_of("".join(lines)), 41)

    def test_no_line_feed_at_the_end(self):
        self.assertEqual(number_of(TEXT[:-1]), 5)
        self.assertEqual(number_of("wish app (*)"), 1)
        self.assertEqual(number_of(" "), 1)
        self.assertEqual(number_of("\n"), 1)
        self.assertEqual(number_of(TEXT + "\n"), 6)
        self.assertEqual(number_of(TEXT + "x"), 6)
        self.assertEqual(number_of("x\nlock app 1.0.0"), 1)


if __name__ == "__main__":
    unittest.main()
