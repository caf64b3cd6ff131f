"""Promise 6.1: papers trimmed and shortened, what they use, kernels."""

import unittest

from drawn import chain_task, every_stand, fitting, holds, holes_task, is_judged_paper, judged, some_task
from lockwright.errors import NoGivens, NoPaper, NoSources
from lockwright.papers import is_paper
from lockwright.search import solved
from lockwright.tasks import Task
from lockwright.trimming import is_kernel, shortened, trimmed, used
from samples import branching, chance, nested, odd_things, odd_tuples, raised

A, B, C = ("x", 1), ("x", 2), ("x", 3)
TASK = Task(((A, True), (B, True), (C, True)), (
    (("s", 2), ((False, A), (True, B))), (("s", 1), ((False, B), (True, C))), (("t",), ((False, C),)), (("u",), ((True, A),)),
    (("v",), ((False, A),)), (("w",), ((False, A), (True, B))),
))
PAPER = (("axiom", ("u",)), ("axiom", ("v",)), ("joined", 0, 1, A))


def told_trimmed(task, givens, paper):
    """The three steps of the point, said once more."""
    clauses = judged(task, givens, paper)
    end = clauses.index(frozenset())
    rows = []
    for step in paper[:end + 1]:
        if step[0] == "joined":
            step = ("joined", clauses.index(clauses[step[1]]), clauses.index(clauses[step[2]]), step[3])
        rows.append(step)
    left, waiting = set(), [end]
    while waiting:
        at = waiting.pop()
        left.add(at)
        if rows[at][0] == "joined":
            waiting += rows[at][1:3]
    left = sorted(left)
    return tuple(
        ("joined", left.index(rows[at][1]), left.index(rows[at][2]), rows[at][3]) if rows[at][0] == "joined" else rows[at] for at in left
    )


def stuffed(dice, task, givens, paper):
    """A paper with steps that lead nowhere, steps twice over, and steps behind the first empty clause."""
    steps, at = [], {}
    for number, step in enumerate(paper):
        while dice.random() < 0.5 and task.axioms:
            steps.append(("axiom", dice.choice(task.axioms)[0]))
        if dice.random() < 0.3 and givens:
            steps.append(("given", dice.choice(givens)))
        for _ in range(dice.choice([1, 1, 2])):
            moved = ("joined", at[step[1]], at[step[2]], step[3]) if step[0] == "joined" else step
            steps.append(moved)
            if dice.random() < 0.7 or number not in at:
                at[number] = len(steps) - 1
    if dice.random() < 0.5:
        steps += [paper[0], steps[-1]]
    return tuple(steps)


def wandering(dice, task, givens):
    """A paper that joins what comes, and so uses more than it must; None if it comes to none."""
    steps = [("axiom", source) for source, _ in task.axioms] + [("given", literal) for literal in givens]
    told = judged(task, givens, steps)
    for _ in range(400 * min(1, len(task.order))):
        one, other = dice.randrange(len(steps) or 1), dice.randrange(len(steps) or 1)
        clashing = [atom for atom, _ in task.order if steps and (True, atom) in told[one] and (False, atom) in told[other]]
        if len(clashing) == 1:
            more = judged(task, givens, steps + [("joined", one, other, clashing[0])])
            if more is not None and more[-1] not in told:
                steps.append(("joined", one, other, clashing[0]))
                told = more
                if not told[-1]:
                    return tuple(steps)
    return None


def satisfiable(task, sources, literals):
    clauses = [clause for source, clause in task.axioms if source in sources] + [(literal,) for literal in literals]
    return any(all(holds(task, stand, clause) for clause in clauses) for stand in every_stand(task))


def is_told_kernel(task, givens, sources):
    if satisfiable(task, sources, givens):
        return False
    return all(satisfiable(task, [other for other in sources if other != source], givens) for source in sources)


class TrimmedTest(unittest.TestCase):
    def check(self, givens, paper, told):
        self.assertIs(is_paper(TASK, givens, paper), True)
        self.assertEqual(trimmed(TASK, givens, paper), told)

    def test_cut_behind_the_first_empty_clause(self):
        self.check((), PAPER, PAPER)
        self.check((), PAPER + (("axiom", ("t",)), ("joined", 0, 1, A)), PAPER)
        self.check((), PAPER + PAPER[:2] + (("joined", 3, 4, A),), PAPER)
        longer = (("axiom", ("s", 2)), ("joined", 0, 3, A), ("axiom", ("s", 1)), ("joined", 4, 5, B), ("axiom", ("t",)), ("joined", 6, 7, C))
        self.check((), PAPER + longer, PAPER)

    def test_steps_that_lead_nowhere(self):
        self.check((), (("axiom", ("t",)), PAPER[0], ("axiom", ("s", 2)), PAPER[1], ("joined", 1, 2, A), ("joined", 1, 3, A)), PAPER)

    def test_of_steps_with_one_clause_the_first_is_named(self):
        self.check(((True, A),), (("given", (True, A)), PAPER[0], PAPER[1], ("joined", 1, 2, A)), (("given", (True, A)), PAPER[1], ("joined", 0, 1, A)))
        self.check(((True, A),), (PAPER[0], ("given", (True, A)), PAPER[1], ("joined", 1, 2, A)), PAPER)
        first = (("axiom", ("w",)), ("axiom", ("s", 2)), ("axiom", ("u",)), ("joined", 2, 1, A))
        rest = (("axiom", ("s", 1)), ("joined", 3, 4, B), ("axiom", ("t",)), ("joined", 5, 6, C))
        self.check((), first + rest, (
            ("axiom", ("w",)), ("axiom", ("u",)), ("joined", 1, 0, A), ("axiom", ("s", 1)), ("joined", 2, 3, B), ("axiom", ("t",)), ("joined", 4, 5, C),
        ))

    def test_a_joined_step_that_tells_what_was_told_ahead(self):
        task = Task(((A, True), (B, True)), ((("p",), ((True, A), (True, B))), (("q",), ((False, B), (True, A))), (("r",), ((True, A),)), (("z",), ((False, A),))))
        paper = (("axiom", ("r",)), ("axiom", ("p",)), ("axiom", ("q",)), ("joined", 1, 2, B), ("axiom", ("z",)), ("joined", 3, 4, A))
        self.assertEqual(trimmed(task, (), paper), (("axiom", ("r",)), ("axiom", ("z",)), ("joined", 0, 1, A)))

    def test_drawn(self):
        dice = chance(61)
        many = 0
        for _ in range(500):
            task, givens = some_task(dice, 5)
            kind, paper = solved(task, givens)
            if kind == "paper":
                paper = stuffed(dice, task, givens, paper)
                self.assertIs(is_paper(task, givens, paper), True)
                told = trimmed(task, givens, paper)
                self.assertEqual(told, told_trimmed(task, givens, paper))
                self.assertTrue(is_judged_paper(task, givens, told))
                self.assertEqual(trimmed(task, givens, told), told)
                sources = {step[1] for step in told if step[0] == "axiom"}
                literals = {step[1] for step in told if step[0] == "given"}
                self.assertEqual(used(task, givens, paper), (tuple(sorted(sources)), tuple(sorted(literals))))
                many += 1
        self.assertGreater(many, 150)

    def test_used(self):
        self.assertEqual(used(TASK, (), PAPER + (("axiom", ("t",)), ("joined", 0, 1, A))), ((("u",), ("v",)), ()))
        self.assertEqual(used(TASK, ((True, A),), (("given", (True, A)), PAPER[0], PAPER[1], ("joined", 1, 2, A))), ((("v",),), ((True, A),)))

    def test_errors(self):
        for function in (trimmed, used, shortened):
            for thing in odd_things() + odd_tuples() + [nested(40), branching(40), (), PAPER[:2], list(PAPER), PAPER + PAPER[:1]]:
                self.assertIsNotNone(raised(NoPaper, function, TASK, (), thing))
            for givens in [[], ((True, B), (True, A)), ((False, A), (True, A))] + odd_things() + odd_tuples() + [branching(40)]:
                self.assertIsNotNone(raised(NoGivens, function, TASK, givens, None))
            self.assertIsNotNone(raised(NoPaper, function, TASK, (), (("given", (True, A)), PAPER[1], ("joined", 0, 1, A))))


class ShortenedTest(unittest.TestCase):
    def check(self, task, givens, paper):
        told = shortened(task, givens, paper)
        self.assertTrue(is_judged_paper(task, givens, told))
        sources, literals = used(task, givens, told)
        all_sources, all_literals = used(task, givens, paper)
        self.assertLessEqual(set(sources), set(all_sources))
        self.assertLessEqual(set(literals), set(all_literals))
        self.assertEqual(told, shortened(task, givens, paper))
        return sources, literals

    def test_plain(self):
        paper = (
            ("axiom", ("s", 2)), ("axiom", ("s", 1)), ("joined", 0, 1, B), ("axiom", ("t",)), ("joined", 2, 3, C), ("axiom", ("u",)), ("joined", 5, 4, A),
        )
        self.assertEqual(self.check(TASK, (), paper), (tuple(sorted([("s", 2), ("s", 1), ("t",), ("u",)])), ()))
        both = Task(TASK.order, TASK.axioms[:4] + ((("z",), ((False, B), (True, C))), (("y",), ((False, A), (False, B), (False, C)))))
        paper = (
            ("axiom", ("y",)), ("axiom", ("z",)), ("joined", 1, 0, C), ("axiom", ("s", 2)), ("joined", 3, 2, B), ("axiom", ("s", 1)), ("axiom", ("t",)),
            ("joined", 5, 6, C), ("joined", 3, 7, B), ("axiom", ("u",)), ("joined", 9, 4, A),
        )
        self.assertEqual(self.check(both, (), paper), ((("s", 2), ("u",), ("y",), ("z",)), ()))

    def test_drawn(self):
        dice = chance(62)
        many = less = 0
        for _ in range(400):
            task, givens = some_task(dice, 4, 5)
            paper = wandering(dice, task, givens)
            if paper is not None:
                sources, literals = self.check(task, givens, paper)
                self.assertFalse(satisfiable(task, sources, literals))
                for source in sources:
                    self.assertTrue(satisfiable(task, [other for other in sources if other != source], literals))
                for literal in literals:
                    self.assertTrue(satisfiable(task, sources, [other for other in literals if other != literal]))
                many += 1
                less += (sources, literals) != used(task, givens, paper)
        self.assertGreater(many, 100)
        self.assertGreater(less, 10)

    def test_large(self):
        task = chain_task(300)
        sources, literals = self.check(task, (), solved(task, ())[1])
        self.assertEqual((sources, literals), (tuple(sorted(source for source, _ in task.axioms)), ()))
        task = holes_task(5, 4)
        sources, _ = self.check(task, (), solved(task, ())[1])
        self.assertEqual(len(sources), 5 + 4 * 10)
        self.assertIs(is_kernel(task, (), sources), True)


class KernelTest(unittest.TestCase):
    def test_plain(self):
        for sources, flag in [
            ((("u",), ("v",)), True), ((("u",),), False), ((), False), ((("t",), ("u",), ("v",)), False), ((("s", 1), ("s", 2), ("t",), ("u",)), True),
            ((("s", 1), ("s", 2), ("t",), ("u",), ("w",)), False), ((("s", 1), ("t",), ("u",), ("w",)), True), ((("s", 1), ("s", 2), ("t",)), False),
        ]:
            self.assertIs(is_kernel(TASK, (), sources), flag)
        self.assertIs(is_kernel(TASK, ((True, A),), (("v",),)), True)
        self.assertIs(is_kernel(TASK, ((True, A),), (("u",), ("v",))), False)
        self.assertIs(is_kernel(TASK, ((False, A), (True, B)), (("v",),)), False)
        self.assertIs(is_kernel(Task((), ((("n",), ()),)), (), (("n",),)), True)
        self.assertIs(is_kernel(Task((), ((("n",), ()),)), (), ()), False)

    def test_drawn(self):
        dice = chance(63)
        many = {True: 0, False: 0}
        for _ in range(350):
            task, givens = some_task(dice, 4, 4)
            every = tuple(sorted(source for source, _ in task.axioms))
            lots = [every, tuple(sorted(dice.sample(every, dice.randint(0, len(every)))))]
            if not fitting(task, givens):
                paper = wandering(dice, task, givens) or solved(task, givens)[1]
                lots += [used(task, givens, paper)[0], used(task, givens, solved(task, givens)[1])[0]]
                least = used(task, givens, shortened(task, givens, solved(task, givens)[1]))[0]
                lots += [least, least[1:]]
                lots += [tuple(sorted(set(least) | {dice.choice(every)}))] if every else []
            for sources in lots:
                flag = is_kernel(task, givens, sources)
                self.assertIs(flag, is_told_kernel(task, givens, sources))
                many[flag] += 1
        self.assertGreater(min(many.values()), 60)

    def test_all_may_be_used_without_need(self):
        task = Task(((A, True), (B, True), (C, False)), (
            (("s", 0), ((False, B), (True, C))), (("s", 1), ((False, A), (False, C))), (("s", 2), ((True, B), (True, C))),
            (("s", 3), ((False, A), (True, B), (True, C))), (("s", 4), ((False, C), (True, A), (True, B))),
            (("s", 5), ((False, B), (False, C), (True, A))),
        ))
        every = tuple(("s", k) for k in range(6))
        self.assertIs(is_kernel(task, (), every), False)
        self.assertIs(is_kernel(task, (), every[:3] + every[4:]), True)

    def test_no_sources(self):
        for sources in [
            [], [("u",)], (("v",), ("u",)), (("u",), ("u",)), (("x",),), (("s", True), ("s", 2)), (("s", 3),), ("u",), (["u"],), (("u",), None), None,
            (("s", "1"),), (("s",),), (("u", 1),),
        ] + odd_things() + [thing for thing in odd_tuples() if thing] + [nested(40), branching(40)]:
            self.assertIsNotNone(raised(NoSources, is_kernel, TASK, (), sources), sources)
            self.assertIsNotNone(raised(NoGivens, is_kernel, TASK, [], sources))


class NothingIsChangedTest(unittest.TestCase):
    def test_nothing_is_changed(self):
        before = (TASK.order, TASK.axioms)
        paper = PAPER + (("axiom", ("t",)), ("joined", 0, 1, A))
        for function in (trimmed, used, shortened):
            self.assertEqual(function(TASK, (), paper), function(TASK, (), paper))
        self.assertEqual(before, (TASK.order, TASK.axioms))


if __name__ == "__main__":
    unittest.main()
