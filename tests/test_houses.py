"""Promises 7.1 and 7.2, and of 8.1 the journal: houses."""

import unittest

from books import chain_book, unlike_book, wide_book
from drawn import judged
from lockwright.books import Book, packages, versions
from lockwright.booktexts import entry_lines, read_book
from lockwright.errors import NoEntry, NotEntry, NothingDone, NotQuestion, TooMany
from lockwright.houses import House
from lockwright.installations import is_right
from lockwright.papers import clauses_of, is_paper
from lockwright.questions import Question, read_question
from lockwright.reasons import answer
from lockwright.sayings import axioms_of, order_of, stand_of
from lockwright.tasks import task_of
from lockwright.trimming import trimmed
from lockwright.warrants import is_warrant
from samples import EVERY, branching, chance, entry, nested, odd_things, odd_tuples, raised
from worlds import NAMES, first_by_all, some_rng, some_wanted, some_world, some_world_entry

BOOK = read_book("package app 1.0.0\n  needs lib (^1.0.0)\npackage app 2.0.0\n  needs lib (^2.0.0)\npackage lib 1.1.0\npackage lib 1.2.0\n")
WISH = read_question("wish app (*)\n")
PLAIN = Question((), ())
FIRST = (("app", (1, 0, 0), ()), ("lib", (1, 2, 0), ()))


def papers_of(answer_told):
    return [answer_told[1]] if answer_told[0] == "none" else [paper for paper in answer_told[2] if paper is not None]


def sources_in(papers):
    return {step[1] for paper in papers for step in paper if step[0] == "axiom"}


class Checks(unittest.TestCase):
    def check_answer(self, book, question, told):
        """An answer is as the document says, its papers trimmed."""
        task = task_of(book, question)
        if told[0] == "none":
            self.assertEqual(len(told), 2)
            self.assertIs(is_paper(task, (), told[1]), True)
            self.assertEqual(trimmed(task, (), told[1]), told[1])
            return
        kind, installation, warrant = told
        self.assertEqual(kind, "first")
        self.assertTrue(is_right(book, question, installation))
        stand = stand_of(book, question, installation)
        self.assertIs(is_warrant(task, (), stand, warrant), True)
        for place, paper in enumerate(warrant):
            if paper is not None:
                atom, preferred = task.order[place]
                givens = [(flag, pair[0]) for pair, flag in zip(task.order[:place], stand)] + [(preferred, atom)]
                self.assertEqual(trimmed(task, tuple(sorted(givens)), paper), paper)

    def check_lemmas(self, house):
        told = house.lemmas()
        self.assertIsInstance(told, tuple)
        task = task_of(house.book(), PLAIN)
        for clause, steps in told:
            self.assertEqual(clauses_of(task, (), steps)[-1], clause)
            self.assertEqual(judged(task, (), steps)[-1], frozenset(clause))
        return told


class EditsTest(Checks):
    def test_put_strike_undo(self):
        house = House(BOOK)
        self.assertEqual(house.book(), BOOK)
        one = entry("lib", (2, 0, 0))
        self.assertIsNone(house.put(one))
        self.assertEqual(house.book(), Book(BOOK.entries + (one,)))
        other = entry("lib", (2, 0, 0), (("f", ()),))
        house.put(other)
        self.assertEqual(house.book(), Book(BOOK.entries + (other,)))
        self.assertIsNone(house.strike("app", (1, 0, 0)))
        self.assertEqual(house.book(), Book(BOOK.entries[1:] + (other,)))
        self.assertIsNone(house.undo())
        self.assertEqual(house.book(), Book(BOOK.entries + (other,)))
        house.undo()
        self.assertEqual(house.book(), Book(BOOK.entries + (one,)))
        house.undo()
        self.assertEqual(house.book(), BOOK)
        self.assertIsNotNone(raised(NothingDone, house.undo))
        self.assertEqual(house.book(), BOOK)

    def test_an_edit_that_changes_nothing_is_one(self):
        house = House(BOOK)
        house.put(BOOK.entries[0])
        self.assertEqual(house.book(), BOOK)
        self.assertEqual(house.journal(), "put\npackage app 1.0.0\n  needs lib (>=1.0.0, <2.0.0)\ndone\n")
        house.undo()
        self.assertIsNotNone(raised(NothingDone, house.undo))

    def test_errors_change_nothing(self):
        house = House(BOOK)
        house.ask(WISH)
        before = (house.book(), house.kept(), house.lemmas(), house.journal())
        for thing in odd_things() + odd_tuples() + [nested(40), branching(40)]:
            if thing != entry("lib", (1, 2, 0)):
                self.assertIsNotNone(raised(NotEntry, house.put, thing))
            self.assertIsNotNone(raised(NoEntry, house.strike, thing, (1, 0, 0)))
            self.assertIsNotNone(raised(NoEntry, house.strike, "app", thing))
            self.assertIsNotNone(raised(NotQuestion, house.ask, thing))
        for name, version in [("app", (3, 0, 0)), ("zoo", (1, 0, 0)), ("app", (True, 0, 0)), ("app", [1, 0, 0]), ("app", None)]:
            self.assertIsNotNone(raised(NoEntry, house.strike, name, version))
        self.assertIsNotNone(raised(NothingDone, house.undo))
        self.assertEqual(before, (house.book(), house.kept(), house.lemmas(), house.journal()))

    def test_two_hundred_entries(self):
        full = Book(tuple(entry("a", (1, 0, k)) for k in range(200)))
        house = House(full)
        self.assertEqual(raised(TooMany, house.put, entry("a", (1, 0, 200))).most, 200)
        self.assertEqual(house.book(), full)
        self.assertEqual(house.journal(), "")
        house.put(entry("a", (1, 0, 7), (("f", ()),)))
        house.strike("a", (1, 0, 9))
        house.put(entry("b", (1, 0, 0)))
        self.assertEqual(len(house.book().entries), 200)
        self.assertIsNotNone(raised(TooMany, house.put, entry("b", (1, 0, 1))))

    def test_book_that_was_passed_stays(self):
        book = Book(BOOK.entries)
        house = House(book)
        house.strike("app", (1, 0, 0))
        self.assertEqual(book, BOOK)
        later = house.book()
        house.undo()
        self.assertEqual(later, Book(BOOK.entries[1:]))


class JournalTest(unittest.TestCase):
    def test_journal(self):
        house = House(BOOK)
        self.assertEqual(house.journal(), "")
        one = entry("kit", (1, 0, 0), (("f", ("g",)), ("g", ())), (("", "lib", EVERY, ("x", "y")), ("f", "app", ((((1, 0, 0)), (2, 0, 0)),), ())), (("zoo", EVERY),))
        house.put(one)
        put = "put\npackage kit 1.0.0\n  feature f turns g\n  feature g\n  needs lib (*) with x y\n  if f needs app (>=1.0.0, <2.0.0)\n  bars zoo (*)\ndone\n"
        self.assertEqual(house.journal(), put)
        house.strike("app", (2, 0, 0))
        self.assertEqual(house.journal(), put + "strike app 2.0.0\ndone\n")
        house.strike("lib", (1, 1, 0))
        house.undo()
        self.assertEqual(house.journal(), put + "strike app 2.0.0\ndone\n")
        house.ask(WISH)
        self.assertEqual(house.journal(), put + "strike app 2.0.0\ndone\n")
        house.undo()
        house.undo()
        self.assertEqual(house.journal(), "")


class AskTest(Checks):
    def test_answers(self):
        house = House(BOOK)
        told = house.ask(WISH)
        self.assertEqual(told[:2], ("first", FIRST))
        self.check_answer(BOOK, WISH, told)
        none = read_question("wish app (2.0.0)\n")
        told = house.ask(none)
        self.assertEqual(told[0], "none")
        self.check_answer(BOOK, none, told)
        self.assertEqual(house.ask(PLAIN)[:2], ("first", ()))
        self.check_answer(BOOK, PLAIN, house.ask(PLAIN))
        self.assertEqual(House(Book(())).ask(PLAIN), ("first", (), ()))

    def test_kept_in_order(self):
        house = House(BOOK)
        self.assertEqual(house.kept(), [])
        none, other = read_question("wish app (2.0.0)\n"), read_question("wish lib (*)\n")
        answers = [house.ask(question) for question in (WISH, none, other)]
        self.assertEqual(house.kept(), list(zip((WISH, none, other), answers)))
        again = house.ask(Question(none.wishes, none.locks))
        self.assertEqual(again, answers[1])
        self.assertEqual(house.kept(), list(zip((WISH, none, other), answers)))
        house.put(entry("app", (3, 0, 0)))
        self.assertEqual([question for question, _ in house.kept()], [none, other])
        house.ask(WISH)
        house.ask(other)
        house.ask(none)
        self.assertEqual([question for question, _ in house.kept()], [none, other, WISH])
        rows = house.kept()
        rows.clear()
        self.assertEqual(len(house.kept()), 3)

    def test_too_many(self):
        entries = [entry(f"p{chr(97 + k // 26)}{chr(97 + k % 26)}", (1, 0, 0), tuple((each, ()) for each in ("abcdef" if k < 66 else "abc" if k == 66 else "")))
                   for k in range(99)]
        full = Book(tuple(entries + [entry("q", (1, 0, 0), (("a", ()),))]))
        house = House(full)
        question = read_question("wish q (*)\n")
        self.assertEqual(house.ask(question)[:2], ("first", (("q", (1, 0, 0), ()),)))
        over = read_question("wish q (*) with z\n")
        self.assertEqual(raised(TooMany, house.ask, over).most, 600)
        self.assertEqual(len(house.kept()), 1)
        # An answer whose task would be too large goes, though nothing that it hangs on has changed.
        house.put(entry("zoo", (1, 0, 0)))
        self.assertEqual(house.kept(), [])
        self.assertEqual(raised(TooMany, house.ask, question).most, 600)
        house.undo()
        self.assertEqual(house.kept(), [])
        house.ask(question)
        house.put(entry("pab", (1, 0, 0)))
        self.assertEqual(len(house.kept()), 1)

    def test_too_many_axioms(self):
        bars = (("a", EVERY), ("a", (((1, 0, 0), (1, 0, 97)),)))
        house = House(Book(tuple([entry("a", (1, 0, k)) for k in range(198)] + [entry("b", (1, 0, 0), bars=bars)])))
        question = read_question("wish b (*)\n")
        house.ask(question)
        self.assertEqual(raised(TooMany, house.ask, read_question("wish b (*)\nwish b (1.0.0)\n")).most, 20000)
        house.put(entry("c", (1, 0, 0)))
        self.assertEqual(house.kept(), [])


class KeptTest(Checks):
    def house(self, *questions):
        house = House(BOOK)
        for question in questions:
            house.ask(question)
        return house

    def test_an_answer_none(self):
        none = read_question("wish app (2.0.0)\n")
        house = self.house(none)
        told = house.kept()
        # No axiom of its paper names the oldest version, or the packages that come.
        house.put(entry("zoo", (1, 0, 0), needs=(("", "app", EVERY, ()),)))
        self.assertEqual(house.kept(), told)
        house.put(entry("lib", (1, 3, 0)))
        self.assertEqual(house.kept(), told)
        house.strike("lib", (1, 1, 0))
        self.assertEqual(house.kept(), told)
        house.put(entry("lib", (2, 5, 0)))
        self.assertEqual(house.kept(), [])
        self.assertEqual(house.ask(none)[:2], ("first", (("app", (2, 0, 0), ()), ("lib", (2, 5, 0), ()))))

    def test_what_goes_does_not_come_back(self):
        none = read_question("wish app (2.0.0)\n")
        house = self.house(none, WISH)
        house.put(entry("lib", (2, 5, 0)))
        self.assertEqual(house.kept(), [])
        house.undo()
        self.assertEqual(house.kept(), [])
        self.assertEqual(house.ask(WISH)[1], FIRST)

    def test_an_answer_first_with_new_packages(self):
        question = read_question("wish app (*)\nlock kit 1.0.0\n")
        house = self.house(question)
        before = dict(zip([atom for atom, _ in order_of(BOOK, question)], house.kept()[0][1][2]))
        for one in [entry("kit", (2, 0, 0)), entry("kit", (1, 0, 0), (("f", ()),)), entry("aaa", (1, 0, 0), needs=(("", "other", EVERY, ("x",)),))]:
            house.put(one)
            self.assertEqual(len(house.kept()), 1)
        kept, told = house.kept()[0]
        self.assertEqual((kept, told[:2]), (question, ("first", FIRST)))
        self.check_answer(house.book(), question, told)
        for (atom, _), paper in zip(order_of(house.book(), question), told[2]):
            if atom in before:
                self.assertEqual(paper, before[atom])
            elif atom[0] == "at":
                self.assertEqual(sources_in([paper]), {("inner", atom[1], atom[2])})
            else:
                self.assertIsNone(paper)
        # What the new papers hang on counts from then on.
        house.strike("kit", (1, 0, 0))
        self.assertEqual(house.kept(), [])

    def test_an_installed_package_got_or_lost_a_version(self):
        for one in [entry("lib", (1, 0, 0)), entry("lib", (3, 0, 0)), entry("app", (0, 1, 0))]:
            house = self.house(WISH)
            house.put(one)
            self.assertEqual(house.kept(), [])
        house = self.house(read_question("wish lib (*)\n"))
        house.strike("lib", (1, 1, 0))
        self.assertEqual(house.kept(), [])

    def test_the_installation_is_right_no_more(self):
        house = self.house(WISH)
        house.put(entry("lib", (1, 2, 0), bars=(("app", EVERY),)))
        self.assertEqual(house.kept(), [])
        self.assertEqual(house.ask(WISH)[1], (("app", (1, 0, 0), ()), ("lib", (1, 1, 0), ())))

    def test_an_installed_entry_may_be_put_anew(self):
        house = self.house(WISH)
        house.put(entry("lib", (1, 2, 0), (("f", ()),), (), (("zoo", EVERY),)))
        self.assertEqual([told[:2] for _, told in house.kept()], [("first", FIRST)])
        self.check_answer(house.book(), WISH, house.kept()[0][1])

    def test_copies_go_on_apart(self):
        house = self.house(WISH)
        house.put(entry("zoo", (1, 0, 0)))
        other = house.copy()
        self.assertIsInstance(other, House)
        self.assertEqual((other.book(), other.kept(), other.lemmas(), other.journal()), (house.book(), house.kept(), house.lemmas(), house.journal()))
        before = (house.book(), house.kept(), house.lemmas(), house.journal())
        other.strike("zoo", (1, 0, 0))
        other.put(entry("lib", (2, 0, 0)))
        other.ask(read_question("wish lib (*)\n"))
        self.assertEqual((house.book(), house.kept(), house.lemmas(), house.journal()), before)
        for _ in range(3):
            other.undo()
        self.assertEqual(other.book(), BOOK)
        self.assertIsNotNone(raised(NothingDone, other.undo))
        self.assertEqual((house.book(), house.kept(), house.lemmas(), house.journal()), before)
        again = house.copy()
        house.undo()
        house.ask(PLAIN)
        self.assertEqual((again.book(), again.kept(), again.lemmas(), again.journal()), before)
        self.assertEqual(house.book(), BOOK)

    def test_lemmas(self):
        book, question = chain_book(30, (1, 2), ("f", "g"), True)
        house = House(book)
        early = house.copy()
        house.ask(question)
        told = self.check_lemmas(house)
        self.assertGreater(len(told), 3)
        self.assertEqual((early.lemmas(), early.kept()), ((), []))
        copied = house.copy()
        self.assertEqual(copied.lemmas(), told)
        self.check_answer(book, question, house.ask(question))
        other = Question(question.wishes, (("pab", (1, 0, 0)),))
        self.check_answer(book, other, house.ask(other))
        before = self.check_lemmas(house)
        one = book.entries[31]
        axioms = dict(axioms_of(book, PLAIN))
        house.strike(one.name, one.version)
        now = dict(axioms_of(house.book(), PLAIN))
        stays = tuple((clause, steps) for clause, steps in before if all(axioms[each] == now.get(each) for each in sources_in([steps])))
        self.assertEqual(house.lemmas(), stays)
        self.assertLess(len(stays), len(before))
        self.assertEqual(copied.lemmas(), told)
        self.check_answer(house.book(), question, house.ask(question))


class LawsTest(Checks):
    """Rows of edits and questions: what is kept is just what the document lets, and each answer is that of the book of now."""

    def stands(self, axioms, papers, now):
        return all(source in now and now[source] == axioms[source] for source in sources_in(papers))

    def expected(self, before, book, later):
        """The pairs (question, answer) that the point lets stay, with None for what the warrant is then."""
        rows = []
        for question, told in before:
            axioms, now = dict(axioms_of(book, question)), dict(axioms_of(later, question))
            if not self.stands(axioms, papers_of(told), now):
                continue
            if told[0] == "none":
                rows.append((question, told))
            elif all(versions(book, name) == versions(later, name) for name, _, _ in told[1]) and is_right(later, question, told[1]):
                rows.append((question, told[:2]))
        return rows

    def check_edit(self, house, book, before, lemmas):
        later = house.book()
        rows = [(question, told if told[0] == "none" else told[:2]) for question, told in house.kept()]
        self.assertEqual(rows, self.expected(before, book, later))
        old = dict((id_of(question), told) for question, told in before)
        for question, told in house.kept():
            self.check_answer(later, question, told)
            if told[0] == "first":
                self.check_papers(question, old[id_of(question)], told, book, later)
        axioms, now = dict(axioms_of(book, PLAIN)), dict(axioms_of(later, PLAIN))
        self.assertEqual(house.lemmas(), tuple(one for one in lemmas if self.stands(axioms, [one[1]], now)))
        self.check_lemmas(house)
        return len(before) - len(rows), len(rows)

    def check_papers(self, question, before, told, book, later):
        papers = dict(zip([atom for atom, _ in order_of(book, question)], before[2]))
        for (atom, _), paper in zip(order_of(later, question), told[2]):
            if atom in papers:
                self.assertEqual(paper, papers[atom])
            elif paper is not None:
                self.assertEqual(sources_in([paper]), {("inner",) + atom[1:]})

    def some_edit(self, dice, house):
        """Does one edit, or undo, and tells whether the book may have changed."""
        kind = dice.choice(["put", "put", "put", "strike", "undo"])
        if kind == "put":
            house.put(some_world_entry(dice, dice.choice(NAMES), (dice.randint(1, 3), 0, 0)))
        elif kind == "strike" and house.book().entries:
            one = dice.choice(house.book().entries)
            house.strike(one.name, one.version)
        elif house.journal():
            house.undo()

    def test_drawn(self):
        dice = chance(71)
        gone = stayed = 0
        for _ in range(45):
            book, _ = some_world(dice)
            house = House(book)
            questions = []
            for _ in range(4):
                wishes = tuple((dice.choice(NAMES), some_rng(dice), some_wanted(dice)) for _ in range(dice.randint(0, 3)))
                questions.append(Question(wishes, tuple((name, (dice.randint(1, 3), 0, 0)) for name in NAMES if dice.random() < 0.3)))
            for _ in range(9):
                for question in dice.sample(questions, 3):
                    told = house.ask(question)
                    self.check_answer(house.book(), question, told)
                    self.assertIn((question, told), house.kept())
                    if len(packages(house.book())) < 4:
                        first = first_by_all(house.book(), question)
                        self.assertEqual(told[1] if told[0] == "first" else None, first)
                book, before, lemmas = house.book(), house.kept(), house.lemmas()
                self.some_edit(dice, house)
                more, less = self.check_edit(house, book, before, lemmas)
                gone, stayed = gone + more, stayed + less
                for question, told in house.kept():
                    self.assertEqual(answer(house.book(), question)[:2 if told[0] == "first" else 1], told[:2 if told[0] == "first" else 1])
        self.assertGreater(gone, 200)
        self.assertGreater(stayed, 200)

    def test_drawn_edits_of_a_chain(self):
        dice = chance(73)
        lost = stayed = 0
        for _ in range(6):
            book, question = chain_book(dice.randint(5, 10), (1, 2), ("f", "g"), True)
            house = House(book)
            for _ in range(10):
                for wishes in (question.wishes, ((dice.choice(packages(house.book())), EVERY, ("f",)),)):
                    asked = Question(wishes, ((dice.choice(packages(book)), (1, 0, 0)),))
                    self.check_answer(house.book(), asked, house.ask(asked))
                before = (house.book(), house.kept(), house.lemmas())
                one = dice.choice(book.entries)
                edit = dice.choice(["strike", "put", "less", "undo"])
                if edit == "strike" and one in house.book().entries:
                    house.strike(one.name, one.version)
                elif edit == "undo" and house.journal():
                    house.undo()
                else:
                    house.put(entry(one.name, one.version, one.features, one.needs[:-1] if edit == "less" else one.needs))
                self.check_edit(house, *before)
                stayed += len(house.lemmas())
                lost += len(before[2]) - len(house.lemmas())
        self.assertGreater(min(lost, stayed), 20)

    def test_journal_of_drawn_edits(self):
        dice = chance(72)
        for _ in range(25):
            book, _ = some_world(dice)
            house, lines = House(book), []
            for _ in range(8):
                before, text = house.book(), house.journal()
                self.some_edit(dice, house)
                if len(house.journal()) < len(text):
                    lines.pop()
                elif len(house.journal()) > len(text):
                    new = [one for one in house.book().entries if one not in before.entries]
                    lost = [one for one in before.entries if (one.name, one.version) not in [(each.name, each.version) for each in house.book().entries]]
                    if lost:
                        lines.append(f"strike {lost[0].name} {'.'.join(map(str, lost[0].version))}\ndone\n")
                    elif new:
                        lines.append("\n".join(["put"] + entry_lines(new[0]) + ["done\n"]))
                    else:
                        lines.append(house.journal()[len(text):])
                self.assertEqual(house.journal(), "".join(lines))


def id_of(question):
    return (question.wishes, question.locks)


class LargeTest(Checks):
    def check(self, book, question, kind):
        house = House(book)
        told = house.ask(question)
        self.assertEqual(told[0], kind)
        self.check_answer(book, question, told)
        house.strike(book.entries[-1].name, book.entries[-1].version)
        self.check_answer(house.book(), question, house.ask(question))
        house.undo()
        self.check_answer(book, question, house.ask(question))
        self.check_lemmas(house)

    def test_chains(self):
        for turned in (False, True):
            self.check(*chain_book(98, (1, 2), ("e", "f", "g"), turned), "first")
            self.check(*chain_book(98, (1, 2), ("e", "f", "g"), turned, True), "none")

    def test_many_versions(self):
        self.check(*wide_book(150, 1), "first")
        self.check(*wide_book(150, 0), "none")

    def test_eight_unlike_versions(self):
        self.check(*unlike_book(8, 8), "first")
        self.check(*unlike_book(8, 25), "first")
        self.check(*unlike_book(8, 7), "none")


if __name__ == "__main__":
    unittest.main()
