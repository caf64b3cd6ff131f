"""Promise 6.2: the answer, clashes, what must be given up, why not and why; and the example e03."""

import itertools
import unittest

from books import book_of, chain_book, unlike_book, wide_book
from drawn import is_judged_paper
from lockwright.ahead import choices, priority
from lockwright.books import Book
from lockwright.booktexts import read_book
from lockwright.errors import NoEntry, NoName, TooMany
from lockwright.installations import fault, is_right
from lockwright.papers import is_paper
from lockwright.questions import Question, read_question
from lockwright.ranges import read_range
from lockwright.reasons import answer, clashes, given_up, why, why_not
from lockwright.sayings import order_of
from lockwright.tasks import task_of
from samples import EVERY, branching, chance, entry, nested, odd_things, odd_tuples, raised
from worlds import NAMES, Truth, all_installations, some_rng, some_wanted, some_world

B = read_book("package app 1.0.0\n  needs lib (^1.0.0)\npackage app 2.0.0\n  needs lib (^2.0.0)\npackage lib 1.1.0\npackage lib 1.2.0\n")
Q = Question((("app", read_range("*"), ()),), ())


def lots(many):
    return [lot for size in range(many + 1) for lot in itertools.combinations(range(many), size)]


def least(found):
    return [lot for lot in found if not any(set(other) < set(lot) for other in found)]


class ExampleTest(unittest.TestCase):
    def test_e03(self):
        self.assertEqual(answer(B, Q), ("first", (("app", (1, 0, 0), ()), ("lib", (1, 2, 0), ()))))
        self.assertEqual(fault(B, Q, (("app", (2, 0, 0), ()),)), ("need", "app", 0))


class AnswerTest(unittest.TestCase):
    def check_none(self, book, question):
        kind, paper = answer(book, question)
        self.assertEqual(kind, "none")
        self.assertIs(is_paper(task_of(book, question), (), paper), True)
        self.assertTrue(is_judged_paper(task_of(book, question), (), paper))

    def test_plain(self):
        self.assertEqual(answer(B, Question((), ())), ("first", ()))
        self.assertEqual(answer(Book(()), Question((), ())), ("first", ()))
        locked = Question(Q.wishes, (("lib", (1, 1, 0)),))
        self.assertEqual(answer(B, locked), ("first", (("app", (1, 0, 0), ()), ("lib", (1, 1, 0), ()))))
        self.check_none(B, read_question("wish app (2.0.0)\n"))
        self.check_none(B, read_question("wish gone (*)\n"))
        self.check_none(B, read_question("wish app (*)\nwish lib (1.1.0)\nwish lib (1.2.0)\n"))
        self.check_none(B, read_question("wish app (*) with gui\n"))

    def test_nothing_unwanted(self):
        book = read_book("package app 1.0.0\n  feature f turns g\n  feature g\n  if g needs lib (*)\npackage lib 1.0.0\n  feature h\npackage zoo 1.0.0\n")
        self.assertEqual(answer(book, read_question("wish app (*)\n")), ("first", (("app", (1, 0, 0), ()),)))
        self.assertEqual(answer(book, read_question("wish app (*) with f\n")), ("first", (("app", (1, 0, 0), ("f", "g")), ("lib", (1, 0, 0), ()))))

    def test_drawn(self):
        dice = chance(62)
        many = {"first": 0, "none": 0}
        for _ in range(220):
            book, question = some_world(dice)
            right = [thing for thing in all_installations(book) if Truth(book, question, thing).fault() is None]
            kind, told = answer(book, question)
            many[kind] += 1
            if right:
                key = lambda thing: [choices(book, question, name).index({n: v for n, v, _ in thing}.get(name)) for name in priority(book, question)]
                self.assertEqual((kind, told), ("first", min(right, key=key)))
                self.assertTrue(is_right(book, question, told))
            else:
                self.check_none(book, question)
        self.assertGreater(min(many.values()), 40)


class WishesTest(unittest.TestCase):
    def test_plain(self):
        question = read_question("wish lib (1.1.0)\nwish app (*)\nwish lib (1.2.0)\nwish gone (*)\n")
        self.assertEqual(clashes(B, question), [(3,), (0, 2)])
        self.assertEqual(given_up(B, question), [(0, 3), (2, 3)])
        self.assertEqual((clashes(B, Q), given_up(B, Q)), ([], [()]))
        self.assertEqual((clashes(B, Question((), ())), given_up(B, Question((), ()))), ([], [()]))
        twice = read_question("wish app (2.0.0)\nwish app (2.0.0)\n")
        self.assertEqual((clashes(B, twice), given_up(B, twice)), ([(0,), (1,)], [(0, 1)]))

    def test_features_of_a_wish(self):
        book = read_book("package a 1.0.0\n  feature f\n  feature g\n  if f needs b (1.0.0)\n  if g needs b (2.0.0)\npackage b 1.0.0\npackage b 2.0.0\n")
        question = read_question("wish a (*) with f\nwish a (*) with g\nwish b (*)\n")
        self.assertEqual((clashes(book, question), given_up(book, question)), ([(0, 1)], [(0,), (1,)]))
        both = read_question("wish b (*)\nwish a (*) with f g\n")
        self.assertEqual((clashes(book, both), given_up(book, both)), ([(1,)], [(1,)]))

    def test_drawn(self):
        dice = chance(63)
        seen = set()
        for _ in range(160):
            book, _ = some_world(dice)
            wishes = tuple((dice.choice(NAMES), some_rng(dice), some_wanted(dice)) for _ in range(dice.randint(2, 4)))
            question = Question(wishes, ())
            closed = []
            for thing in all_installations(book):
                wrong = Truth(book, question, thing).faults()
                if all(one[0] == "wish" for one in wrong):
                    closed.append(frozenset(range(len(wishes))) - {one[1] for one in wrong})
            met = {lot: any(set(lot) <= one for one in closed) for lot in lots(len(wishes))}
            self.assertEqual(clashes(book, question), least([lot for lot in met if not met[lot]]))
            others = lambda lot: tuple(at for at in range(len(wishes)) if at not in lot)
            self.assertEqual(given_up(book, question), least([lot for lot in met if met[others(lot)]]))
            seen.update(len(lot) for lot in clashes(book, question))
        self.assertLessEqual({1, 2}, seen)

    def test_new_lists(self):
        for function in (clashes, given_up):
            one = function(B, read_question("wish gone (*)\n"))
            other = function(B, read_question("wish gone (*)\n"))
            self.assertIsInstance(one, list)
            one.append(1)
            self.assertEqual(other, [(0,)])


class WhyTest(unittest.TestCase):
    def check(self, book, question, literal, paper):
        self.assertTrue(is_judged_paper(task_of(book, question), (literal,), paper))
        self.assertIs(is_paper(task_of(book, question), (literal,), paper), True)

    def test_plain(self):
        self.check(B, Q, (True, ("at", "app", (2, 0, 0))), why_not(B, Q, "app", (2, 0, 0)))
        self.assertIsNone(why_not(B, Q, "app", (1, 0, 0)))
        self.assertIsNone(why_not(B, Question((), ()), "lib", (1, 1, 0)))
        self.check(B, Q, (False, ("in", "app")), why(B, Q, "app"))
        self.check(B, Q, (False, ("in", "lib")), why(B, Q, "lib"))
        self.assertIsNone(why(B, Question((), ()), "app"))
        self.assertIsNone(why(B, Q, "zoo"))
        # What none of the wishes can be met with is no more why not than anything else.
        none = read_question("wish gone (*)\n")
        self.check(B, none, (True, ("at", "lib", (1, 1, 0))), why_not(B, none, "lib", (1, 1, 0)))
        self.check(B, none, (False, ("in", "gone")), why(B, none, "gone"))
        self.check(B, none, (False, ("in", "lib")), why(B, none, "lib"))

    def test_a_need_names_a_package(self):
        book = read_book("package app 1.0.0\n  needs gone (*)\n")
        self.assertIsNone(why(book, Question((), ()), "gone"))
        self.check(book, Question((), ()), (True, ("at", "app", (1, 0, 0))), why_not(book, Question((), ()), "app", (1, 0, 0)))

    def test_drawn(self):
        dice = chance(64)
        many = {}
        for _ in range(90):
            book, question = some_world(dice)
            closed = [thing for thing in all_installations(book) if not Truth(book, question, thing).faults()]
            for one in book.entries:
                told = why_not(book, question, one.name, one.version)
                there = any((one.name, one.version) == triple[:2] for thing in closed for triple in thing)
                self.assertEqual(told is None, there)
                if told is not None:
                    self.check(book, question, (True, ("at", one.name, one.version)), told)
                many["not", told is None] = many.get(("not", told is None), 0) + 1
            atoms = [atom for atom, _ in order_of(book, question)]
            for name in NAMES + ("zoo",):
                told = why(book, question, name)
                out = any(name not in [triple[0] for triple in thing] for thing in closed) or ("in", name) not in atoms
                self.assertEqual(told is None, out)
                if told is not None:
                    self.check(book, question, (False, ("in", name)), told)
                many["why", told is None] = many.get(("why", told is None), 0) + 1
        self.assertGreater(min(many.values()), 30)
        self.assertEqual(len(many), 4)

    def test_no_entry(self):
        for name, version in [
            ("app", (3, 0, 0)), ("zoo", (1, 0, 0)), ("app", (True, 0, 0)), ("app", [1, 0, 0]), ("app", (1, 0)), ("App", (1, 0, 0)), (None, (1, 0, 0)),
            ("app", None), ((1, 0, 0), "app"), ("lib", (1, 0, 0)),
        ]:
            self.assertIsNotNone(raised(NoEntry, why_not, B, Q, name, version))
        for thing in odd_things() + odd_tuples() + [nested(40), branching(40)]:
            self.assertIsNotNone(raised(NoEntry, why_not, B, Q, thing, (1, 0, 0)))
            self.assertIsNotNone(raised(NoEntry, why_not, B, Q, "app", thing))

    def test_no_name(self):
        for thing in odd_things() + odd_tuples() + [nested(40), branching(40), "", "App", "a b", "abcdefghijklm", ("app",)]:
            self.assertIsNotNone(raised(NoName, why, B, Q, thing))


class LimitsTest(unittest.TestCase):
    def check_too_many(self, book, question, most):
        for function in (answer, clashes, given_up):
            self.assertEqual(raised(TooMany, function, book, question).most, most)
        one = book.entries[0]
        self.assertEqual(raised(TooMany, why_not, book, question, one.name, one.version).most, most)
        self.assertEqual(raised(TooMany, why, book, question, one.name).most, most)
        self.assertEqual(raised(TooMany, why, book, question, "zzz").most, most)
        self.assertIsNotNone(raised(NoEntry, why_not, book, question, "zzz", one.version))
        self.assertIsNotNone(raised(NoName, why, book, question, "Z"))

    def check_let(self, book, question):
        self.assertEqual(answer(book, question)[0], "first")
        self.assertEqual((clashes(book, question), given_up(book, question)), ([], [()]))
        one = book.entries[0]
        self.assertIsNone(why_not(book, question, one.name, one.version))
        self.assertIsNone(why(book, question, "zzz"))

    def featured(self, last):
        """100 packages, with 399 features and so many of the last one."""
        entries = [entry(f"p{chr(97 + k // 26)}{chr(97 + k % 26)}", (1, 0, 0), tuple((each, ()) for each in ("abcdef" if k < 66 else "abc" if k == 66 else "")))
                   for k in range(99)]
        return Book(tuple(entries + [entry("q", (1, 0, 0), tuple((each, ()) for each in "abcdef"[:last]))]))

    def test_atoms(self):
        question = read_question("wish q (*)\n")
        self.assertEqual(len(order_of(self.featured(1), question)), 600)
        self.check_let(self.featured(1), question)
        self.check_too_many(self.featured(2), question, 600)

    def test_axioms(self):
        def barring(many):
            bars = (("a", EVERY), ("a", (((1, 0, 0), (1, 0, many)),)))
            return Book(tuple([entry("a", (1, 0, k)) for k in range(198)] + [entry("b", (1, 0, 0), bars=bars)]))
        question = read_question("wish a (*)\n")
        self.assertEqual(len(task_of(barring(97), question).axioms), 20000)
        self.check_let(barring(97), question)
        self.check_too_many(barring(98), question, 20000)


class LargeTest(unittest.TestCase):
    def check(self, book, question, kind):
        told = answer(book, question)
        self.assertEqual(told[0], kind)
        if kind == "first":
            self.assertTrue(is_right(book, question, told[1]))
            self.assertEqual((clashes(book, question), given_up(book, question)), ([], [()]))
        else:
            self.assertIs(is_paper(task_of(book, question), (), told[1]), True)
        for one in (book.entries[0], book.entries[len(book.entries) // 2], book.entries[-1]):
            paper = why_not(book, question, one.name, one.version)
            if paper is not None:
                self.assertIs(is_paper(task_of(book, question), ((True, ("at", one.name, one.version)),), paper), True)
            paper = why(book, question, one.name)
            if paper is not None:
                self.assertIs(is_paper(task_of(book, question), ((False, ("in", one.name)),), paper), True)
        return told

    def test_chains(self):
        for turned in (False, True):
            book, question = chain_book(100, (1,), ("e", "f", "g"), turned)
            self.assertEqual(len(order_of(book, question)), 500)
            self.assertEqual([triple[2] for triple in self.check(book, question, "first")[1]], [("e", "f", "g")] * 100)
            book, question = chain_book(100, (1, 2), ("e", "f"), turned)
            self.assertEqual([triple[1] for triple in self.check(book, question, "first")[1]], [(2, 0, 0)] * 100)
            book, question = chain_book(98, (1, 2), ("e", "f", "g"), turned)
            self.assertEqual(len(order_of(book, question)), 588)
            self.check(book, question, "first")
            book, question = chain_book(98, (1, 2), ("e", "f", "g"), turned, True)
            self.check(book, question, "none")
            self.assertEqual((clashes(book, question), given_up(book, question)), ([(0,)], [(0,)]))

    def test_many_versions(self):
        book, question = wide_book(150, 1)
        self.assertEqual(self.check(book, question, "first")[1], (("app", (1, 0, 0), ()), ("lib", (2, 0, 2), ())))
        book, question = wide_book(150, 0)
        self.check(book, question, "none")

    def test_eight_unlike_versions(self):
        book, question = unlike_book(8, 8)
        self.assertEqual([version[0] for _, version, _ in self.check(book, question, "first")[1]], [8, 7, 6, 5, 4, 3, 2, 1])
        book, question = unlike_book(8, 25)
        self.check(book, question, "first")
        book, question = unlike_book(8, 7)
        self.check(book, question, "none")
        self.assertEqual(clashes(book, question), [tuple(range(8))])
        self.assertEqual(given_up(book, question), [(at,) for at in range(8)])
        book, question = unlike_book(8, 5)
        self.assertEqual(clashes(book, question), list(itertools.combinations(range(8), 6)))
        self.assertEqual(given_up(book, question), list(itertools.combinations(range(8), 3)))


class NothingIsChangedTest(unittest.TestCase):
    def test_nothing_is_changed(self):
        book, question = Book(B.entries), Question(Q.wishes, Q.locks)
        for function in (answer, clashes, given_up):
            self.assertEqual(function(book, question), function(book, question))
        self.assertEqual(why(book, question, "app"), why(book, question, "app"))
        self.assertEqual(why_not(book, question, "app", (2, 0, 0)), why_not(book, question, "app", (2, 0, 0)))
        self.assertEqual((book, question), (B, Q))
        self.assertEqual(book_of(reversed(B.entries)), B)


if __name__ == "__main__":
    unittest.main()
