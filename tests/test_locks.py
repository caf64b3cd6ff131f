"""Promise 9.1 and example e05: lock texts."""

import string
import unittest

from lockwright.booktexts import read_book
from lockwright.errors import BadLine
from lockwright.locks import lock_text, locks_of, read_lock
from lockwright.questions import Question
from lockwright.ranges import read_range
from lockwright.reasons import answer
from samples import branching, chance, nested, odd_things, odd_tuples, raised

APP, LIB = ("app", (1, 0, 0), ()), ("lib", (1, 2, 0), ())
TEXT = "app 1.0.0\nlib 1.2.0\ncheck 10973\n"
SIGNS = [chr(code) for code in range(32, 127)] + ["\n"]


def checked(lines):
    """Some lines with the check that is right for them, however bent they are."""
    text = "".join(line + "\n" for line in lines)
    total = 0
    for at in range(len(text)):
        total += ord(text[at]) * (at + 1)
    return f"{text}check {total % 99991}\n"


def some_name(dice):
    return "".join(dice.choice(string.ascii_lowercase) for _ in range(dice.choice([1, 2, 3, 12])))


def some_installation(dice):
    names = sorted({some_name(dice) for _ in range(dice.randint(0, 6))} | ({"check"} if dice.random() < 0.2 else set()))
    most = dice.choice([2, 30, 1000000])
    return tuple(
        (name, tuple(dice.randint(0, most) for _ in range(3)), tuple(sorted({some_name(dice) for _ in range(dice.randint(0, 3))})))
        for name in names
    )


def wrong_line(text):
    error = raised(BadLine, read_lock, text)
    return error and error.number


class LockTextTest(unittest.TestCase):
    def test_e05(self):
        book = read_book(
            "package app 1.0.0\n  needs lib (^1.0.0)\npackage app 2.0.0\n  needs lib (^2.0.0)\npackage lib 1.1.0\npackage lib 1.2.0\n"
        )
        question = Question((("app", read_range("*"), ()),), ())
        self.assertEqual(lock_text(answer(book, question)[1]), TEXT)
        self.assertEqual(read_lock(TEXT), (APP, LIB))

    def test_by_hand(self):
        self.assertEqual(lock_text(()), "check 0\n")
        total = sum(code * place for place, code in enumerate([97, 32, 48, 46, 48, 46, 48, 10], 1))
        self.assertEqual(lock_text((("a", (0, 0, 0), ()),)), f"a 0.0.0\ncheck {total}\n")
        greatest = (("abcdefghijkl", (1000000, 1000000, 1000000), ("a", "mnopqrstuvwx", "z")),)
        self.assertEqual(lock_text(greatest), checked(["abcdefghijkl 1000000.1000000.1000000 a mnopqrstuvwx z"]))
        many = tuple((f"p{first}{second}", (1, 2, 3), tuple("abcdefgh")) for first in string.ascii_lowercase for second in string.ascii_lowercase)
        self.assertEqual(lock_text(many), checked([f"{name} 1.2.3 a b c d e f g h" for name, _, _ in many]))
        self.assertEqual(read_lock(lock_text(many)), many)
        self.assertRegex(lock_text(many), r"check [1-9]?[0-9]{1,4}\n\Z")

    def test_a_check_of_nought(self):
        """A text whose sum is a multiple of 99991, beside one that is just behind it."""
        found = {}
        for number in range(40000):
            text = lock_text((("a", (number, 0, 0), ()), ("b", (1, 0, 0), ("f",))))
            found.setdefault(text.split("\n")[-2], text)
        least = sorted(found, key=lambda line: int(line.split(" ")[1]))
        for line in least[:3] + least[-3:]:
            self.assertEqual(lock_text(read_lock(found[line])), found[line])
        self.assertLess(int(least[-1].split(" ")[1]), 99991)

    def test_a_package_called_check(self):
        for thing in [(("check", (1, 0, 0), ()),), (("a", (1, 0, 0), ()), ("check", (5, 0, 0), ("check",)), ("d", (1, 0, 0), ()))]:
            self.assertEqual(read_lock(lock_text(thing)), thing)

    def test_drawn(self):
        dice = chance(41)
        for _ in range(300):
            thing = some_installation(dice)
            text = lock_text(thing)
            self.assertEqual(text, checked([" ".join([name, ".".join(map(str, version)), *features]) for name, version, features in thing]))
            back = read_lock(text)
            self.assertEqual(back, thing)
            self.assertIs(type(back), tuple)
            for name, version, features in back:
                self.assertEqual([type(part) for part in (name, version, features, *version)], [str, tuple, tuple, int, int, int])
            self.assertEqual(locks_of(thing), tuple((name, version) for name, version, _ in thing))


class ReadLockTest(unittest.TestCase):
    def test_wrong_lines_with_a_check_that_is_right(self):
        for line in [
            "", " ", "lib", "lib ", "lib 1", "lib 1.0", "lib 1.0.0.0", "lib 1.0.0 ", " lib 1.0.0", "lib  1.0.0", "lib 1.0.0  f", "lib 1.0.0 f ", "Lib 1.0.0",
            "lib 01.0.0", "lib 1.00.0", "lib 1.0.00", "lib 1000001.0.0", "lib 1.1000001.0", "lib 1.0.1000001", "lib -1.0.0", "lib +1.0.0", "lib 1.0.x", "lib 1..0",
            "lib 1.0.0 F", "lib 1.0.0 g f", "lib 1.0.0 f f", "lib 1.0.0 f1", "lib 1.0.0 abcdefghijklm", "abcdefghijklm 1.0.0", "li1 1.0.0", "1.0.0", "lib-1.0.0", "lib\t1.0.0",
            "lib 1.0.0 (f)", "lib 1.0.0,f", "lib (1.0.0)", "package lib 1.0.0", "app 2.0.0", "aaa 1.0.0", "lib 1_0.0.0", "lib 10000000.0.0", "lib 1. 0.0", "lib 1.0.0\r",
            "lib " + "9" * 5000 + ".0.0", "check", "check ", "check 0", "check x", "check 1.0", "#lib 1.0.0", "lib \u0661.0.0", "l\u00efb 1.0.0",
        ]:
            with self.subTest(line=line):
                self.assertEqual(wrong_line(checked(["app 1.0.0", line])), 2)
                self.assertEqual(wrong_line(checked(["app 1.0.0", line, "zoo 1.0.0"])), 2)
                self.assertEqual(wrong_line(checked(["app 1.0.0", line, "zoo 1.0"])), 2)
                if line not in ("app 2.0.0", "aaa 1.0.0", "check 0"):
                    self.assertEqual(wrong_line(checked([line])), 1)

    def test_order(self):
        self.assertEqual(wrong_line(checked(["b 1.0.0", "a 1.0.0"])), 2)
        self.assertEqual(wrong_line(checked(["a 1.0.0", "a 1.0.0"])), 2)
        self.assertEqual(wrong_line(checked(["a 1.0.0", "a 1.0.1"])), 2)
        self.assertEqual(wrong_line(checked(["a 1.0.0", "ab 1.0.0", "b 1.0.0", "b 2.0.0"])), 4)
        self.assertEqual(wrong_line(checked(["a 1.0.0", "c 1.0.0", "b 1.0.0", "d 1.0.0"])), 3)
        self.assertEqual(len(read_lock(checked(["a 1.0.0", "aa 0.0.0", "ab 1.0.0", "b 1.0.0"]))), 4)

    def test_checks(self):
        lines = "app 1.0.0\nlib 1.2.0\n"
        for check in ["check 10972", "check 10974", "check 010973", "check 10973 ", "check  10973", " check 10973", "Check 10973", "check 110964", "check", "check +10973",
                      "check 10_973", "check -10973", "check 10973.0", "check 1097", "check 109730", "10973", "check:10973", "check " + "9" * 5000, "check\t10973"]:
            self.assertEqual(wrong_line(f"{lines}{check}\n"), 3)
            self.assertEqual(wrong_line(f"{lines}{check}\n{TEXT}"), 3)
        self.assertEqual(wrong_line("check 1\n"), 1)
        self.assertEqual(wrong_line("check 00\n"), 1)
        self.assertEqual(wrong_line("check \n"), 1)

    def test_an_end_that_is_missing(self):
        for text, number in [("", 1), ("app 1.0.0\n", 2), ("app 1.0.0\nlib 1.2.0\n", 3), ("app 1.0.0", 1), ("app 1.0.0\nlib 1.2", 2), ("check 0", 1), (TEXT[:-1], 3),
                             ("\n", 1), ("x", 1), ("x\n", 1), ("app 1.0.0\n\n", 2)]:
            self.assertEqual(wrong_line(text), number, text)

    def test_more_behind_the_end(self):
        for more in ["\n", " ", "x", "zoo 1.0.0\n", "check 0\n", TEXT, "\n\n", "check 10973\n", "check 10973"]:
            self.assertEqual(wrong_line(TEXT + more), 4, more)
            self.assertEqual(wrong_line("check 0\n" + more), 2, more)

    def test_no_string(self):
        for thing in odd_things() + odd_tuples() + [nested(40), branching(40), [TEXT], TEXT.encode(), (TEXT,)]:
            if not isinstance(thing, str):
                self.assertEqual(wrong_line(thing), 0)

    def test_long_texts(self):
        self.assertEqual(wrong_line("a" * 40000), 1)
        self.assertEqual(wrong_line("\n" * 40000), 1)
        self.assertEqual(wrong_line("a 1.0.0" + " b" * 19000 + "\n"), 1)
        names = sorted(a + b + c for a in "abcdefghijklmnop" for b in string.ascii_lowercase for c in string.ascii_lowercase)[:8000]
        long = tuple((name, (1000000, 0, 999999), ("f", "g")) for name in names)
        self.assertEqual(read_lock(lock_text(long)), long)


class BentTest(unittest.TestCase):
    """No lock text that is bent a little is read."""

    def texts(self):
        dice = chance(42)
        return [TEXT, "check 0\n", lock_text((("check", (9, 9, 9), ("a", "b")),))] + [lock_text(some_installation(dice)) for _ in range(4)]

    def test_one_sign_changed(self):
        for text in self.texts():
            for at in range(len(text)):
                for sign in SIGNS:
                    if sign != text[at]:
                        self.assertIsNotNone(wrong_line(text[:at] + sign + text[at + 1:]))

    def test_two_signs_exchanged(self):
        for text in self.texts():
            for one in range(len(text)):
                for other in range(one):
                    if text[one] != text[other]:
                        bent = text[:other] + text[one] + text[other + 1:one] + text[other] + text[one + 1:]
                        self.assertIsNotNone(wrong_line(bent))

    def test_cut_or_with_more(self):
        for text in self.texts():
            for at in range(len(text)):
                self.assertIsNotNone(wrong_line(text[:at]))
            for sign in SIGNS:
                self.assertEqual(wrong_line(text + sign), text.count("\n") + 1)
            for other in self.texts():
                self.assertIsNotNone(wrong_line(text + other))


class LocksOfTest(unittest.TestCase):
    def test_locks(self):
        self.assertEqual(locks_of(()), ())
        self.assertEqual(locks_of((APP, ("lib", (1, 2, 0), ("f", "g")))), (("app", (1, 0, 0)), ("lib", (1, 2, 0))))
        self.assertEqual(Question((), locks_of((APP, LIB))).locks, (("app", (1, 0, 0)), ("lib", (1, 2, 0))))


if __name__ == "__main__":
    unittest.main()
