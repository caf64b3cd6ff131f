"""Promise 8.1: journals, and the houses that are recovered from them."""

import unittest

from lockwright.books import Book, entry_of
from lockwright.booktexts import entry_lines, read_book
from lockwright.errors import LockError, NoText, NothingDone, TooMany
from lockwright.houses import House
from lockwright.journals import recovered
from lockwright.questions import Question, read_question
from samples import EVERY, branching, chance, entry, nested, odd_things, odd_tuples, raised
from worlds import NAMES, some_world, some_world_entry

BOOK = read_book("package app 1.0.0\n  needs lib (^1.0.0)\npackage app 2.0.0\n  needs lib (^2.0.0)\npackage lib 1.1.0\npackage lib 1.2.0\n")
KIT = "put\npackage kit 1.0.0\n  feature f turns g\n  feature g\n  needs lib (*) with x y\n  if f needs app (>=1.0.0, <2.0.0)\n  bars zoo (*)\ndone\n"
STRIKE = "strike app 2.0.0\ndone\n"


def segment(one):
    """The text of an edit: of an entry that is put, or of a pair that is struck."""
    if isinstance(one, tuple):
        return f"strike {one[0]} {'.'.join(str(number) for number in one[1])}\ndone\n"
    return "".join(line + "\n" for line in ["put", *entry_lines(one), "done"])


def some_edits(dice, book, many):
    """Edits that can be done on a book, one behind another, and the books that they lead to."""
    edits, books = [], [book]
    for _ in range(many):
        entries = {(one.name, one.version): one for one in books[-1].entries}
        if entries and dice.random() < 0.4:
            place = dice.choice(sorted(entries))
            del entries[place]
            edits.append(place)
        else:
            one = some_world_entry(dice, dice.choice(NAMES), (dice.randint(1, 3), 0, 0))
            entries[(one.name, one.version)] = one
            edits.append(one)
        books.append(Book(tuple(entries[place] for place in sorted(entries))))
    return edits, books


class RecoveredTest(unittest.TestCase):
    def check(self, book, text, books, segments):
        """What is recovered is the house that was led through these books, by just these segments."""
        house, many = recovered(book, text)
        self.assertIsInstance(house, House)
        self.assertEqual((house.book(), house.journal(), many), (books[-1], "".join(segments), len("".join(segments))))
        self.assertEqual((house.kept(), house.lemmas()), ([], ()))
        for ahead in reversed(books[:-1]):
            self.assertIsNone(house.undo())
            self.assertEqual(house.book(), ahead)
        self.assertIsNotNone(raised(NothingDone, house.undo))
        self.assertEqual(house.journal(), "")

    def test_by_hand(self):
        kit = read_book(KIT[4:-5]).entries[0]
        with_kit = Book((*BOOK.entries[:2], kit, *BOOK.entries[2:]))
        self.check(BOOK, "", [BOOK], [])
        self.check(BOOK, KIT, [BOOK, with_kit], [KIT])
        self.check(BOOK, KIT + STRIKE, [BOOK, with_kit, Book((BOOK.entries[0], kit, *BOOK.entries[2:]))], [KIT, STRIKE])
        house, many = recovered(BOOK, KIT + STRIKE)
        self.assertEqual(many, len(KIT) + len(STRIKE))
        self.assertIsInstance(recovered(BOOK, KIT), tuple)
        self.assertEqual(len(recovered(BOOK, KIT)), 2)

    def test_an_answer_that_was_kept_is_not_recovered(self):
        house = House(BOOK)
        house.ask(read_question("wish app (*)\n"))
        house.put(entry("zoo", (1, 0, 0)))
        self.assertEqual(len(house.kept()), 1)
        other, many = recovered(BOOK, house.journal())
        self.assertEqual((other.kept(), other.lemmas(), other.book()), ([], (), house.book()))
        self.assertEqual(other.ask(read_question("wish app (*)\n")), house.ask(read_question("wish app (*)\n")))

    def test_cut_anywhere(self):
        dice = chance(31)
        for _ in range(12):
            book = some_world(dice)[0]
            edits, books = some_edits(dice, book, 5)
            house = House(book)
            for one in edits:
                if isinstance(one, tuple):
                    house.strike(*one)
                else:
                    house.put(one)
            segments = [segment(one) for one in edits]
            text = house.journal()
            self.assertEqual(text, "".join(segments))
            for cut in range(len(text) + 1):
                whole = [k for k in range(6) if len("".join(segments[:k])) <= cut][-1]
                told, many = recovered(book, text[:cut])
                self.assertEqual((told.book(), many), (books[whole], len("".join(segments[:whole]))))
            for whole in range(6):
                self.check(book, "".join(segments[:whole]) + "put\n", books[:whole + 1], segments[:whole])

    def test_a_wrong_line_anywhere(self):
        dice = chance(32)
        book = some_world(dice)[0]
        edits, books = some_edits(dice, book, 6)
        segments = [segment(one) for one in edits]
        lines = "".join(segments).split("\n")[:-1]
        home = [at for at, text in enumerate(segments) for _ in range(text.count("\n"))] + [6]
        for wrong in ["", " ", "x", "put ", " put", "Done", "done ", " done", "strike", "strike a", "strike a 1.0", "  needs a", "package a 1.0", "  feature F"]:
            for at in range(len(lines) + 1):
                text = "".join(line + "\n" for line in lines[:at] + [wrong] + lines[at:])
                with self.subTest(wrong=wrong, at=at):
                    self.check(book, text, books[:home[at] + 1], segments[:home[at]])

    def test_a_done_taken_out_anywhere(self):
        dice = chance(33)
        book = some_world(dice)[0]
        edits, books = some_edits(dice, book, 6)
        segments = [segment(one) for one in edits]
        for at in range(6):
            text = "".join(segments[:at] + [segments[at].removesuffix("done\n")] + segments[at + 1:])
            self.check(book, text, books[:at + 1], segments[:at])
            for bent in ["done", "Done\n", "done \n", " done\n", "done\ndone\n", "\ndone\n", "don\n"]:
                text = "".join(segments[:at] + [segments[at].removesuffix("done\n") + bent] + segments[at + 1:])
                whole = at + (bent == "done\ndone\n")
                self.check(book, text, books[:whole + 1], segments[:whole])

    def test_a_done_put_in(self):
        one = read_book(KIT[4:-5]).entries[0]
        lines = KIT.split("\n")[:-1]
        for at in range(len(lines) + 1):
            text = "".join(line + "\n" for line in lines[:at] + ["done"] + lines[at:])
            left, many = recovered(Book(()), text + STRIKE)
            # Behind the first feature what it turns on is not there yet; behind each later line an entry is whole.
            if at in (0, 1, 3):
                self.assertEqual((left.book(), many), (Book(()), 0))
            else:
                part = read_book("".join(line + "\n" for line in lines[1:at] if line != "done"))
                self.assertEqual((left.book(), many), (part, len("".join(line + "\n" for line in lines[:at])) + 5 * (at < len(lines))))
        self.assertEqual(recovered(Book(()), KIT)[0].book(), Book((one,)))

    def test_what_cannot_be_done(self):
        for text in ["strike zoo 1.0.0\ndone\n", "strike app 3.0.0\ndone\n", "strike app 1000000.0.0\ndone\n", "strike app 1000001.0.0\ndone\n"]:
            self.check(BOOK, STRIKE + text + KIT, [BOOK, Book((BOOK.entries[0], *BOOK.entries[2:]))], [STRIKE])
        self.check(BOOK, STRIKE + STRIKE, [BOOK, Book((BOOK.entries[0], *BOOK.entries[2:]))], [STRIKE])
        for lines in [
            ["package app 1000000.0.0"], ["package App 1.0.0"], ["package app 1.0"], ["package app 01.0.0"], ["package app 1.0.0 "], [],
            ["package app 1.0.0", "  needs app (*)"], ["package app 1.0.0", "  feature f turns g"], ["package app 1.0.0", "  if f needs lib (*)"],
            ["package app 1.0.0", "  bars lib (*)", "  needs lib (*)"], ["package app 1.0.0", "  needs lib *"], ["package app 1.0.0", "needs lib (*)"],
            ["package app 1.0.0", "package app 1.1.0"], ["package app 1.0.0", "  needs lib (>>1.0.0)"], ["  feature f", "package app 1.0.0"],
            ["package app 1.0.0"] + ["  needs lib (*)"] * 9, ["package app 1.0.0"] + ["  bars lib (*)"] * 7, ["strike app 1.0.0"],
        ]:
            text = "".join(line + "\n" for line in ["put", *lines, "done"])
            with self.subTest(lines=lines):
                self.check(BOOK, text + STRIKE, [BOOK], [])
        for text in ["strike app 2.0.0 \ndone\n", "strike  app 2.0.0\ndone\n", "strike app 2.0\ndone\n", "strike app 02.0.0\ndone\n", "strike app\ndone\n",
                     "strike app 2.0.0 f\ndone\n", " strike app 2.0.0\ndone\n", "strike app 2.0.0\n\ndone\n", "strike app 2.0.0\nstrike app 1.0.0\ndone\n",
                     "done\n", "\n", "strike app 2.0.0done\n", "app 2.0.0\ndone\n", "strike strike app 2.0.0\ndone\n", "undo\ndone\n", "Strike app 2.0.0\ndone\n", "put app 1.0.0\ndone\n"]:
            with self.subTest(text=text):
                self.check(BOOK, text + STRIKE, [BOOK], [])

    def test_the_two_hundred_and_first_entry(self):
        full = Book(tuple(entry("a", (1, 0, k)) for k in range(199)))
        one, other = entry("b", (1, 0, 0)), entry("b", (2, 0, 0))
        again = entry("b", (1, 0, 0), (("f", ()),))
        books = [full, Book((*full.entries, one)), Book((*full.entries, again))]
        self.check(full, segment(one) + segment(again) + segment(other) + STRIKE, books, [segment(one), segment(again)])
        house, many = recovered(full, segment(one) + "strike a 1.0.7\ndone\n" + segment(other) + segment(entry("c", (1, 0, 0))))
        self.assertEqual(len(house.book().entries), 200)
        self.assertEqual(many, len(segment(one)) + len(segment(other)) + len("strike a 1.0.7\ndone\n"))

    def test_ranges_in_other_forms(self):
        text = "put\npackage kit 1.0.0\n  needs lib (^1.0.0, !1.5.0 | 0.0.7) with x\n  needs app (*, *)\n  bars zoo (<1.0.0 | >=1.0.0)\ndone\n"
        told = "put\npackage kit 1.0.0\n  needs lib (0.0.7 | >=1.0.0, <1.5.0 | >=1.5.1, <2.0.0) with x\n  needs app (*)\n  bars zoo (*)\ndone\n"
        house, many = recovered(BOOK, text + STRIKE)
        self.assertEqual(many, len(text) + len(STRIKE))
        self.assertEqual(house.journal(), told + STRIKE)
        self.assertEqual(entry_of(house.book(), "kit", (1, 0, 0)).needs[1], ("", "app", EVERY, ()))

    def test_over_another_book(self):
        house = House(BOOK)
        house.put(entry("zoo", (1, 0, 0)))
        house.strike("app", (1, 0, 0))
        house.put(entry("app", (3, 0, 0)))
        text = house.journal()
        other = Book((entry("app", (1, 0, 0), (("f", ()),)), entry("kit", (1, 0, 0))))
        zoo = entry("zoo", (1, 0, 0))
        books = [other, Book((*other.entries, zoo)), Book((other.entries[1], zoo)), Book((entry("app", (3, 0, 0)), other.entries[1], zoo))]
        first, second = len("put\npackage zoo 1.0.0\ndone\n"), len("put\npackage zoo 1.0.0\ndone\nstrike app 1.0.0\ndone\n")
        self.check(other, text, books, [text[:first], text[first:second], text[second:]])
        self.check(Book(()), text, [Book(()), Book((zoo,))], [text[:first]])

    def test_what_goes_on(self):
        house = recovered(BOOK, KIT + STRIKE)[0]
        house.strike("kit", (1, 0, 0))
        self.assertEqual(house.journal(), KIT + STRIKE + "strike kit 1.0.0\ndone\n")
        self.assertEqual(recovered(BOOK, house.journal())[0].book(), house.book())
        self.assertEqual(recovered(BOOK, KIT + STRIKE)[0].journal(), KIT + STRIKE)
        self.assertEqual(BOOK.entries[1].version, (2, 0, 0))

    def test_many_edits(self):
        text = "put\npackage a 1.0.0\ndone\nstrike a 1.0.0\ndone\n" * 800
        house, many = recovered(BOOK, text)
        self.assertEqual((house.book(), many), (BOOK, len(text)))

    def test_no_text(self):
        for thing in odd_things() + odd_tuples() + [nested(40), branching(40)]:
            if not isinstance(thing, str):
                self.assertIsNotNone(raised(NoText, recovered, BOOK, thing))
        self.assertEqual(raised(NoText, recovered, BOOK, b"").__class__.__mro__[1:3], (LockError, ValueError))
        for text in ["A", "\n", "abc def", "done", "\n" * 40000, "done\n" * 8000, "put\n" * 10000]:
            self.assertEqual(recovered(BOOK, text)[1], 0)


class HousesOnceMoreTest(unittest.TestCase):
    """What a house says behind edits that came from a journal, and that a refused call changes nothing of."""

    def test_refused(self):
        house = recovered(BOOK, KIT)[0]
        house.ask(Question((("app", EVERY, ()),), ()))
        before = (house.book(), house.journal(), house.kept(), house.lemmas())
        full = Book(tuple(entry("a", (1, 0, k)) for k in range(200)))
        self.assertEqual(raised(TooMany, House(full).put, entry("b", (1, 0, 0))).most, 200)
        calls = [(house.put, None), (house.strike, "app", None), (house.strike, "gone", (1, 0, 0)), (house.ask, None), (house.put, BOOK), (house.ask, (BOOK,))]
        for call, *arguments in calls:
            with self.assertRaises(LockError) as caught:
                call(*arguments)
            self.assertEqual(type(caught.exception).__mro__[1:], (LockError, *LockError.__mro__[1:]))
            self.assertEqual(before, (house.book(), house.journal(), house.kept(), house.lemmas()))

    def test_drawn_houses_are_recovered(self):
        dice = chance(34)
        for _ in range(15):
            book, question = some_world(dice)
            house = House(book)
            edits = some_edits(dice, book, 8)[0]
            for one in edits:
                house.ask(question)
                if isinstance(one, tuple):
                    house.strike(*one)
                else:
                    house.put(one)
                if dice.random() < 0.3:
                    again = recovered(book, house.journal())[0]
                    self.assertEqual((again.book(), again.journal()), (house.book(), house.journal()))
                    self.assertEqual(again.ask(question)[:1], house.ask(question)[:1])


if __name__ == "__main__":
    unittest.main()
