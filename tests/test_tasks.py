"""Promise 5.1: tasks, stands that fit, givens."""

import unittest

from drawn import every_stand, fits, some_task
from lockwright.books import Book
from lockwright.booktexts import read_book
from lockwright.errors import BadTask, NoGivens, NoStand, TooMany
from lockwright.questions import Question, read_question
from lockwright.sayings import axioms_of, order_of
from lockwright.tasks import Task, first_wrong, is_fitting, task_of
from samples import EVERY, branching, chance, entry, nested, odd_things, odd_tuples, raised

A, B, C = ("x", 1), ("x", 2), ("y", "one", (1, 2))
ORDER = ((A, True), (B, False), (C, True))
AXIOMS = ((("s", 2), ((False, A), (True, B))), (("s", 1), ((True, C),)), (("t",), ((False, A), (False, C))))


def part(order, axioms):
    error = raised(BadTask, Task, order, axioms)
    return None if error is None else error.part


class TaskTest(unittest.TestCase):
    def test_keeps_its_attributes(self):
        task = Task(ORDER, AXIOMS)
        self.assertEqual((task.order, task.axioms), (ORDER, AXIOMS))

    def test_equal(self):
        self.assertTrue(Task(ORDER, AXIOMS) == Task(tuple(list(ORDER)), tuple(list(AXIOMS))))
        for other in [Task(ORDER, AXIOMS[:2]), Task(ORDER, AXIOMS[::-1]), Task(((A, True), (C, True), (B, False)), AXIOMS),
                      Task(((A, False), (B, False), (C, True)), AXIOMS)]:
            self.assertFalse(Task(ORDER, AXIOMS) == other)
            self.assertTrue(Task(ORDER, AXIOMS) != other)
        for other in odd_things() + [(ORDER, AXIOMS), Book(())]:
            self.assertFalse(Task(ORDER, AXIOMS) == other)

    def test_least_tasks(self):
        self.assertEqual(Task((), ()).order, ())
        self.assertEqual(Task((), ((("a",), ()),)).axioms, ((("a",), ()),))

    def test_order_itself(self):
        for thing in [list(ORDER), None, "order", tuple((("x", k), True) for k in range(601))]:
            self.assertEqual(part(thing, ()), "order")
        for thing in odd_things():
            self.assertEqual(part(thing, AXIOMS), "order")
        self.assertIsNone(part(tuple((("x", k), True) for k in range(600)), ()))

    def test_atoms(self):
        for atom in [("x",), ("x", 1), ("", -1, ()), ("x", (1,), "y", (2, -3, 0)), ("x", "y", "z", "w"), ("x", 10 ** 11), ("In", "A b")]:
            self.assertIsNone(part(((("w",), False), (atom, True)), ()), atom)
        for atom in [
            (), (1,), (("x",),), ("x", None), ("x", True), ("x", [1]), ("x", ("y",)), ("x", (1, True)), ("x", ((1,),)), ("x", 1, 2, 3, 4),
            ["x"], "x", b"x", ("x", b"y"), (b"x",), None, ((1,), "x"), ("x", {}), ("x", (None,)), nested(38), branching(38), ("x", branching(37)),
        ]:
            self.assertEqual(part(((("w",), False), (atom, True)), ()), ("order", 1), atom)
        self.assertEqual(part(((("w",), False), (nested(1), True)), ()), ("order", 1))
        for thing in odd_things():
            self.assertEqual(part(((("w",), False), (thing, True)), ()), ("order", 1))
        for thing in odd_things() + odd_tuples():
            self.assertEqual(part(((("w",), False), thing), ()), ("order", 1))

    def test_pairs(self):
        for pair in [(A,), (A, True, True), [A, True], (A, 1), (A, 0), (A, None), (A, "True"), (True, A), A, None]:
            self.assertEqual(part(((("w",), False), pair), ()), ("order", 1), pair)

    def test_atoms_are_unlike_and_alike_in_kind(self):
        for one, other in [
            (("x", 1), ("x", 1)), (("x", 1), ("x", "1")), (("x", 1), ("x", (1,))), (("x", 1), ("x", 1, 1)), (("x", 1), ("x",)),
            (("x", "a", 1), ("x", "a", (1,))), (("x", ()), ("x", 0)),
        ]:
            self.assertEqual(part(((("w",), True), (one, True), (other, False)), ()), ("order", 2))
        for one, other in [(("x", 1), ("y", "1")), (("x", ()), ("x", (1, 2))), (("x", 1), ("x", 0)), (("x",), ("y", (1,)))]:
            self.assertIsNone(part(((("w",), True), (one, True), (other, False)), ()))

    def test_the_first_that_is_wrong(self):
        bad = (("x",), 1)
        self.assertEqual(part(((A, True), bad, bad), "axioms"), ("order", 1))
        self.assertEqual(part(ORDER, [bad]), "axioms")
        self.assertEqual(part(ORDER, (AXIOMS[0], bad, bad)), ("axiom", 1))

    def test_axioms_themselves(self):
        for thing in odd_things() + [list(AXIOMS), dict(AXIOMS), tuple((("s", k), ()) for k in range(20001))]:
            self.assertEqual(part(ORDER, thing), "axioms")
        self.assertIsNone(part(ORDER, tuple((("s", k), ((True, A),)) for k in range(20000))))

    def test_sources(self):
        for source in [("s",), ("s", 1, 2, 3, 4), ("s", "a", (1, 2, 3), (4,), "b"), ("x", "unlike atoms of this name"), ("", ())]:
            self.assertIsNone(part(ORDER, ((("w",), ()), (source, ((True, A),)))), source)
        for source in [(), (1,), ("s", 1, 2, 3, 4, 5), ("s", None), ("s", True), ("s", (1, "a")), ["s"], "s", None, (("s",),), ("s", branching(37))]:
            self.assertEqual(part(ORDER, ((("w",), ()), (source, ((True, A),)))), ("axiom", 1), source)
        for one, other in [(("s", 1), ("s", 1)), (("s", 1), ("s", "1")), (("s", 1), ("s",)), (("s", 1), ("s", (1,))), (("s", 1), ("s", 1, 1))]:
            self.assertEqual(part(ORDER, ((one, ()), (other, ()))), ("axiom", 1))

    def test_clauses(self):
        for clause in [(), ((True, A),), ((False, A), (False, B), (False, C)), ((False, C), (True, A), (True, B)), ((True, A), (True, B), (True, C))]:
            self.assertIsNone(part(ORDER, ((("s",), clause),)), clause)
        for clause in [
            [], None, [(True, A)], (True, A), ((True, A), (True, A)), ((True, B), (True, A)), ((True, A), (False, B)), ((False, A), (True, A)),
            ((False, A), (False, B), (True, A)), ((True, ("x", 3)),), ((True, ("x", True)),), ((1, A),), ((0, A),), ((None, A),), ((True, [A]),),
            ((True,),), ((True, A, A),), ([True, A],), (A,), ((True, ("x", "1")),), ((True, ("y", "one", (1, 2, 0))),), ((True, ("y", "one", (True, 2))),),
        ]:
            self.assertEqual(part(ORDER, ((("w",), ()), (("s",), clause))), ("axiom", 1), clause)
        for thing in odd_things() + odd_tuples() + [nested(36), branching(36)]:
            self.assertEqual(part(ORDER, ((("s",), thing),)), ("axiom", 0))
            self.assertEqual(part(ORDER, ((("s",), (thing,)),)), ("axiom", 0))
            self.assertEqual(part(ORDER, ((("s",), ((True, thing),)),)), ("axiom", 0))
            self.assertEqual(part(ORDER, (thing,)), ("axiom", 0))


class TaskOfTest(unittest.TestCase):
    def test_it_is_what_is_said(self):
        book = read_book("package app 1.0.0\n  feature f\n  if f needs lib (*) with g\npackage lib 1.0.0\npackage lib 2.0.0\n")
        question = read_question("wish app (*) with f\nlock lib 1.0.0\n")
        self.assertTrue(task_of(book, question) == Task(order_of(book, question), axioms_of(book, question)))
        self.assertEqual(task_of(Book(()), Question((), ())), Task((), ()))

    def featured(self, many):
        """A book of a hundred packages, each of one version, with so many features in all."""
        names = sorted(f"p{one}{other}" for one in "abcdefghij" for other in "abcdefghij")
        entries = []
        for k, name in enumerate(names):
            entries.append(entry(name, (1, 0, 0), tuple((feature, ()) for feature in "abcdef"[:max(0, min(6, many - 6 * k))])))
        return Book(tuple(entries))

    def test_atoms_at_the_limit(self):
        self.assertEqual(len(task_of(self.featured(400), Question((), ())).order), 600)
        self.assertEqual(raised(TooMany, task_of, self.featured(401), Question((), ())).most, 600)
        self.assertEqual(raised(TooMany, task_of, self.featured(400), read_question("wish zoo (*)\n")).most, 600)
        self.assertEqual(len(task_of(self.featured(398), read_question("wish zoo (*) with a\n")).order), 600)

    def barring(self, many):
        """198 versions of one package, and another package that bars so many of them besides all."""
        bars = (("a", EVERY), ("a", (((1, 0, 0), (1, 0, many)),)))
        return Book(tuple([entry("a", (1, 0, k)) for k in range(198)] + [entry("b", (1, 0, 0), bars=bars)]))

    def test_axioms_at_the_limit(self):
        self.assertEqual(len(task_of(self.barring(98), Question((), ())).axioms), 20000)
        self.assertEqual(raised(TooMany, task_of, self.barring(99), Question((), ())).most, 20000)
        self.assertEqual(raised(TooMany, task_of, self.barring(98), read_question("wish b (*)\n")).most, 20000)

    def test_atoms_are_told_ahead_of_axioms(self):
        entries = [entry("a", (1, 0, k), tuple((f"f{chr(97 + j)}{chr(97 + k // 26)}{chr(97 + k % 26)}", ()) for j in range(3))) for k in range(200)]
        self.assertGreater(len(axioms_of(Book(tuple(entries)), Question((), ()))), 20000)
        self.assertEqual(raised(TooMany, task_of, Book(tuple(entries)), Question((), ())).most, 600)


class FittingTest(unittest.TestCase):
    TASK = Task(ORDER, AXIOMS)

    def test_is_fitting(self):
        for stand, flag in [
            ((False, False, True), True), ((False, True, True), True), ((True, True, True), False), ((False, False, False), False),
            ((True, False, True), False), ((False, True, False), False),
        ]:
            self.assertIs(is_fitting(self.TASK, (), stand), flag)
        self.assertIs(is_fitting(self.TASK, ((True, B),), (False, True, True)), True)
        self.assertIs(is_fitting(self.TASK, ((True, B),), (False, False, True)), False)
        self.assertIs(is_fitting(self.TASK, ((False, A), (False, B)), (False, False, True)), True)

    def test_any_thing(self):
        for thing in [(False, False), (False, False, True, True), [False, False, True], (0, 0, 1), (False, False, 1), (None, False, True)]:
            self.assertIs(is_fitting(self.TASK, (), thing), False)
        for thing in odd_things() + odd_tuples() + [nested(40), branching(40)]:
            self.assertIs(is_fitting(self.TASK, (), thing), False)
        self.assertIs(is_fitting(Task((), ()), (), ()), True)
        self.assertIs(is_fitting(Task((), ((("a",), ()),)), (), ()), False)

    def test_no_givens(self):
        for givens in [
            [], None, ((True, A), (True, A)), ((True, B), (True, A)), ((True, A), (False, B)), ((False, A), (True, A)), (True, A), ((True, ("x", 3)),),
            ((1, A),), ((True, ("x", True)),), ([True, A],), ((False, A), (False, B), (True, A)), ((True, A, A),),
        ] + odd_things() + odd_tuples() + [nested(40), branching(40)]:
            self.assertIsNotNone(raised(NoGivens, is_fitting, self.TASK, givens, (False, False, True)), givens)
            self.assertIsNotNone(raised(NoGivens, is_fitting, self.TASK, givens, None))

    def test_first_wrong(self):
        for stand, source in [
            ((False, False, True), None), ((True, False, True), ("s", 2)), ((True, True, True), ("t",)), ((False, False, False), ("s", 1)),
            ((True, False, False), ("s", 2)), ((True, True, False), ("s", 1)),
        ]:
            self.assertEqual(first_wrong(self.TASK, stand), source)

    def test_no_stand(self):
        for thing in [(), (False, False), (False, False, True, True), [False, False, True], (0, 0, 1), (True, True, None)]:
            self.assertIsNotNone(raised(NoStand, first_wrong, self.TASK, thing))
        for thing in odd_things() + [thing for thing in odd_tuples() if thing != (True, True, True)] + [nested(40), branching(40)]:
            self.assertIsNotNone(raised(NoStand, first_wrong, self.TASK, thing))

    def test_drawn(self):
        dice = chance(51)
        for _ in range(120):
            task, givens = some_task(dice, 5, 2)
            for stand in every_stand(task):
                self.assertIs(is_fitting(task, givens, stand), fits(task, givens, stand))
                self.assertEqual(first_wrong(task, stand) is None, fits(task, (), stand))


if __name__ == "__main__":
    unittest.main()
