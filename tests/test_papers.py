"""Promise 5.2: steps, their clauses, and papers; and part of the example e04."""

import unittest

from drawn import every_stand, fits, holds, is_judged_paper, judged, some_literals, some_task
from lockwright.booktexts import read_book
from lockwright.errors import BadStep, NoGivens
from lockwright.papers import clauses_of, is_paper
from lockwright.questions import Question
from lockwright.ranges import read_range
from lockwright.tasks import Task, task_of
from samples import branching, chance, nested, odd_things, odd_tuples, raised

A, B, C, D = ("x", 1), ("x", 2), ("y", (1, 0)), ("x", 0)
TASK = Task(
    ((A, True), (B, True), (C, False), (D, False)),
    ((("s", 1), ((False, A), (True, B))), (("s", 0), ((False, B), (True, C))), (("n",), ()), (("u", "w", (1, 0)), ((False, C), (True, A)))),
)
GIVENS = ((False, C), (True, A))
PAPER = (
    ("axiom", ("s", 1)), ("axiom", ("s", 0)), ("joined", 0, 1, B), ("given", (True, A)), ("joined", 3, 2, A), ("given", (False, C)),
    ("joined", 4, 5, C),
)


def wrong_step(*steps):
    error = raised(BadStep, clauses_of, TASK, GIVENS, steps)
    return None if error is None else error.number


class ClausesTest(unittest.TestCase):
    def test_each_kind(self):
        self.assertEqual(clauses_of(TASK, GIVENS, PAPER), (
            ((False, A), (True, B)), ((False, B), (True, C)), ((False, A), (True, C)), ((True, A),), ((True, C),), ((False, C),), (),
        ))
        self.assertEqual(clauses_of(TASK, GIVENS, (("axiom", ("u", "w", (1, 0))), ("axiom", ("n",)))), (((False, C), (True, A)), ()))
        self.assertEqual(clauses_of(TASK, GIVENS, ()), ())
        self.assertEqual(clauses_of(TASK, (), PAPER[:3]), clauses_of(TASK, GIVENS, PAPER[:3]))

    def test_joined_literals_come_once_and_ascend(self):
        task = Task(((A, True), (B, True), (C, True), (D, True)), (
            (("one",), ((False, D), (False, C), (True, A), (True, B))), (("two",), ((False, A), (False, C), (True, B))),
        ))
        steps = (("axiom", ("one",)), ("axiom", ("two",)), ("joined", 0, 1, A))
        self.assertEqual(clauses_of(task, (), steps)[2], ((False, D), (False, C), (True, B)))

    def test_no_tuple(self):
        for thing in odd_things() + [list(PAPER), "axiom", None]:
            error = raised(BadStep, clauses_of, TASK, GIVENS, thing)
            self.assertEqual(error.number, -1)

    def test_sources(self):
        for source in [("s", 2), ("s",), ("n", 1), ("s", True), ("s", False), ["s", 1], "s", None, ("s", "1"), ("u", "w", (True, 0)), ("u", "w", (1, False))]:
            self.assertEqual(wrong_step(PAPER[0], ("axiom", source)), 1, source)
        for thing in odd_things() + odd_tuples() + [nested(38), branching(38)]:
            self.assertEqual(wrong_step(PAPER[0], ("axiom", thing)), 1)

    def test_givens(self):
        for literal in [(False, A), (True, C), (True, B), (1, A), (True, ("x", True)), [True, A], (True,), (True, A, A), A, None, (False, ("y", (True, 0)))]:
            self.assertEqual(wrong_step(PAPER[0], ("given", literal)), 1, literal)
        for thing in odd_things() + odd_tuples() + [nested(38), branching(38)]:
            self.assertEqual(wrong_step(PAPER[0], ("given", thing)), 1)
            self.assertEqual(wrong_step(PAPER[0], ("given", (True, thing))), 1)

    def test_numbers_and_atoms_of_joined(self):
        one, other = PAPER[0], PAPER[1]
        self.assertIsNone(wrong_step(one, other, ("joined", 0, 1, B)))
        for step in [
            ("joined", 1, 0, B), ("joined", 0, 2, B), ("joined", 2, 1, B), ("joined", 0, 3, B), ("joined", -2, 1, B), ("joined", 0, -1, B),
            ("joined", False, 1, B), ("joined", 0, True, B), ("joined", "0", 1, B), ("joined", None, 1, B), ("joined", (0,), 1, B),
            ("joined", 0, 0, B), ("joined", 1, 1, B), ("joined", 0, 1, A), ("joined", 0, 1, C), ("joined", 0, 1, D), ("joined", 0, 1, ("x", 9)),
            ("joined", 0, 1, ["x", 2]), ("joined", 0, 1, None), ("joined", 0, 1), ("joined", 0, 1, B, B), ("Joined", 0, 1, B), ["joined", 0, 1, B],
        ]:
            self.assertEqual(wrong_step(one, other, step), 2, step)
        for thing in odd_things() + odd_tuples() + [nested(38), branching(38)]:
            self.assertEqual(wrong_step(one, other, ("joined", 0, 1, thing)), 2)
            self.assertEqual(wrong_step(one, other, thing), 2)
            self.assertEqual(wrong_step(one, other, (thing, 0, 1, B)), 2)
            self.assertEqual(wrong_step(one, other, (thing, ("s", 1))), 2)
            if thing not in (0, 1) or isinstance(thing, bool):
                self.assertEqual(wrong_step(one, other, ("joined", thing, 1, B)), 2)
                self.assertEqual(wrong_step(one, other, ("joined", 0, thing, B)), 2)

    def test_flags_are_no_numbers_of_atoms(self):
        self.assertEqual(wrong_step(("given", (True, A)), PAPER[0], ("joined", 0, 1, ("x", True))), 2)

    def test_another_atom_may_not_clash(self):
        task = Task(((A, True), (B, True)), (
            (("p",), ((True, A), (True, B))), (("q",), ((False, A), (False, B))), (("r",), ((False, A), (True, B))), (("s",), ((False, B), (True, A))),
        ))
        for one, other, atom in [(0, 1, A), (0, 1, B), (3, 2, A), (2, 3, B)]:
            steps = tuple(("axiom", source) for source, _ in task.axioms) + (("joined", one, other, atom),)
            self.assertEqual(raised(BadStep, clauses_of, task, (), steps).number, 4)
            self.assertIs(is_paper(task, (), steps), False)
        steps = tuple(("axiom", source) for source, _ in task.axioms) + (("joined", 0, 2, A), ("joined", 3, 1, A), ("joined", 4, 5, B))
        self.assertIs(is_paper(task, (), steps), True)

    def test_the_first_that_is_none(self):
        self.assertEqual(wrong_step(("axiom", ("s", 9)), ("given", None), 1), 0)
        self.assertEqual(wrong_step(*PAPER[:3], None, None), 3)

    def test_no_givens_goes_first(self):
        for givens in [((True, A), (False, C)), [], None, ((False, A), (True, A)), ((True, ("x", 7)),)] + odd_things() + odd_tuples() + [branching(40)]:
            self.assertIsNotNone(raised(NoGivens, clauses_of, TASK, givens, None))
            self.assertIsNotNone(raised(NoGivens, is_paper, TASK, givens, PAPER))


class PaperTest(unittest.TestCase):
    def test_example(self):
        b = read_book("package app 1.0.0\n  needs lib (^1.0.0)\npackage app 2.0.0\n  needs lib (^2.0.0)\npackage lib 1.1.0\npackage lib 1.2.0\n")
        q = Question((("app", read_range("*"), ()),), ())
        atom = ("at", "app", (2, 0, 0))
        steps = (("axiom", ("need", "app", (2, 0, 0), 0)), ("given", (True, atom)), ("joined", 1, 0, atom))
        self.assertIs(is_paper(task_of(b, q), ((True, atom),), steps), True)
        self.assertIs(is_paper(task_of(b, q), (), steps), False)

    def test_the_last_clause_is_empty(self):
        self.assertIs(is_paper(TASK, GIVENS, PAPER), True)
        for many in range(7):
            self.assertIs(is_paper(TASK, GIVENS, PAPER[:many]), False)
        self.assertIs(is_paper(TASK, GIVENS, PAPER + (PAPER[0],)), False)
        self.assertIs(is_paper(TASK, (), (("axiom", ("n",)),)), True)
        self.assertIs(is_paper(TASK, (), (("axiom", ("n",)), PAPER[0])), False)
        self.assertIs(is_paper(TASK, GIVENS, PAPER + (PAPER[0], ("axiom", ("n",)))), True)

    def test_bent_at_one_place(self):
        for at in range(len(PAPER)):
            for step in [None, (), ("axiom", ("s", 5)), ("given", (True, C)), ("joined", 0, 1, D), (PAPER[at],), list(PAPER[at])]:
                self.assertIs(is_paper(TASK, GIVENS, PAPER[:at] + (step,) + PAPER[at + 1:]), False)

    def test_any_thing(self):
        for thing in odd_things() + odd_tuples() + [nested(40), branching(40), (), list(PAPER)]:
            self.assertIs(is_paper(TASK, GIVENS, thing), False)

    def test_nothing_is_changed(self):
        before = (TASK.order, TASK.axioms)
        self.assertEqual(clauses_of(TASK, GIVENS, PAPER), clauses_of(TASK, GIVENS, PAPER))
        self.assertEqual(before, (TASK.order, TASK.axioms))


class FourthStepTest(unittest.TestCase):
    """In each stand in which all axioms and givens are so, each clause of steps is so; where there is a paper none fits."""

    def some_steps(self, dice, task, givens):
        steps = [("axiom", source) for source, _ in task.axioms] + [("given", literal) for literal in givens]
        dice.shuffle(steps)
        for _ in range(25):
            if steps and task.order:
                step = ("joined", dice.randrange(len(steps)), dice.randrange(len(steps)), dice.choice(task.order)[0])
                if judged(task, givens, steps + [step]) is not None:
                    steps.append(step)
        return tuple(steps)

    def test_drawn(self):
        dice = chance(52)
        many = {True: 0, False: 0}
        for _ in range(250):
            task, givens = some_task(dice, 4, 3)
            steps = self.some_steps(dice, task, givens)
            clauses = clauses_of(task, givens, steps)
            self.assertEqual([frozenset(clause) for clause in clauses], judged(task, givens, steps))
            for clause in clauses:
                self.assertEqual(clause, tuple(sorted(clause)))
            stands = [stand for stand in every_stand(task) if fits(task, givens, stand)]
            for stand in stands:
                self.assertTrue(all(holds(task, stand, clause) for clause in clauses))
            for k in range(len(steps) + 1):
                paper = is_paper(task, givens, steps[:k])
                self.assertIs(paper, is_judged_paper(task, givens, steps[:k]))
                many[paper] += 1
                if paper:
                    self.assertEqual(stands, [])
        self.assertGreater(min(many.values()), 20)

    def test_wrong_joins_of_drawn_tasks(self):
        dice = chance(53)
        for _ in range(150):
            task, givens = some_task(dice, 4, 3)
            base = self.some_steps(dice, task, givens)
            for _ in range(15):
                if not task.order:
                    break
                step = ("joined", dice.randrange(len(base) + 2), dice.randrange(len(base) + 2), dice.choice(task.order)[0])
                if judged(task, givens, base + (step,)) is None:
                    self.assertEqual(raised(BadStep, clauses_of, task, givens, base + (step,)).number, len(base))
            other = some_literals(dice, [atom for atom, _ in task.order], min(1, len(task.order)))
            if other and other[0] not in givens:
                self.assertEqual(raised(BadStep, clauses_of, task, givens, base + (("given", other[0]),)).number, len(base))


if __name__ == "__main__":
    unittest.main()
