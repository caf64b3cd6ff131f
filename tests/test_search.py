"""Promise 5.3: the first stand, or a paper; and what follows."""

import itertools
import unittest

from drawn import chain_task, fits, fitting, holes_task, is_judged_paper, judged, just_one_task, named_task, some_task
from lockwright.errors import NoGivens, NoLiteral
from lockwright.papers import is_paper
from lockwright.search import follows, solved
from lockwright.tasks import Task, is_fitting
from samples import branching, chance, nested, odd_things, odd_tuples, raised

A, B = ("x", 1), ("x", 2)


class SolvedTest(unittest.TestCase):
    def check_paper(self, task, givens):
        kind, paper = solved(task, givens)
        self.assertEqual(kind, "paper")
        self.assertIs(is_paper(task, givens, paper), True)
        self.assertTrue(is_judged_paper(task, givens, paper))

    def test_least(self):
        self.assertEqual(solved(Task((), ()), ()), ("stand", ()))
        self.assertEqual(solved(Task((), ((("n",), ()),)), ()), ("paper", (("axiom", ("n",)),)))
        order = ((A, True), (B, False))
        self.assertEqual(solved(Task(order, ()), ()), ("stand", (True, False)))
        self.assertEqual(solved(Task(order, ()), ((False, A),)), ("stand", (False, False)))
        self.assertEqual(solved(Task(order, ((("s",), ((False, A), (True, B))),)), ()), ("stand", (True, True)))
        self.assertEqual(solved(Task(order, ((("s",), ((False, A), (True, B))),)), ((False, B),)), ("stand", (False, False)))
        self.check_paper(Task(order, ((("s",), ((False, A), (True, B))),)), ((False, B), (True, A)))
        self.check_paper(Task(order, ((("s",), ((False, A),)),)), ((True, A),))
        self.check_paper(Task(order, ((("s",), ((False, A),)), (("t",), ((True, A),)))), ())

    def test_the_first_counts_places(self):
        order = ((("c",), True), (("b",), False), (("a",), True))
        clause = ((False, ("c",)), (True, ("b",)))
        other = ((False, ("a",)), (False, ("b",)))
        task = Task(order, ((("s",), clause), (("t",), other)))
        self.assertEqual(solved(task, ()), ("stand", (True, True, False)))
        self.assertEqual(solved(Task(order[::-1], task.axioms), ()), ("stand", (True, False, False)))

    def test_drawn(self):
        dice = chance(53)
        many = {"stand": 0, "paper": 0}
        for _ in range(900):
            task, givens = some_task(dice, 7)
            stands = fitting(task, givens)
            kind, told = solved(task, givens)
            many[kind] += 1
            if stands:
                self.assertEqual((kind, told), ("stand", stands[0]))
            else:
                self.check_paper(task, givens)
            self.assertEqual((kind, told), solved(task, givens))
        self.assertGreater(min(many.values()), 150)

    def test_drawn_with_more_atoms(self):
        dice = chance(54)
        many = {"stand": 0, "paper": 0}
        for _ in range(40):
            size = 12
            atoms = [("x", k) for k in range(size)]
            order = tuple((atom, dice.random() < 0.5) for atom in dice.sample(atoms, size))
            rows = [tuple(sorted((dice.random() < 0.5, atom) for atom in dice.sample(atoms, 3))) for _ in range(dice.randint(48, 62))]
            task = Task(order, tuple((("s", k), row) for k, row in enumerate(rows)))
            stands = fitting(task, ())
            kind, told = solved(task, ())
            many[kind] += 1
            if stands:
                self.assertEqual(told, stands[0])
            else:
                self.check_paper(task, ())
        self.assertGreater(min(many.values()), 5)

    def test_no_givens(self):
        task = Task(((A, True), (B, False)), ())
        for givens in [[], None, ((True, B), (True, A)), ((False, A), (True, A)), ((True, ("x", True)),)] + odd_things() + odd_tuples() + [
                nested(40), branching(40)]:
            self.assertIsNotNone(raised(NoGivens, solved, task, givens))
            self.assertIsNotNone(raised(NoGivens, follows, task, givens, (True, A)))


class LargeTest(unittest.TestCase):
    check_paper = SolvedTest.check_paper

    def test_chains(self):
        for prefer in (True, False):
            for turned in (False, True):
                self.check_paper(self.turned(chain_task(600, True, True, prefer), turned), ())
                task = self.turned(chain_task(600, True, False, prefer), turned)
                self.assertEqual(solved(task, ()), ("stand", (True,) * 600))
                self.check_paper(task, ((False, ("x", 599)),))
                task = self.turned(chain_task(600, False, True, prefer), turned)
                self.assertEqual(solved(task, ()), ("stand", (False,) * 600))
                task = self.turned(chain_task(600, False, False, prefer), turned)
                self.assertEqual(solved(task, ()), ("stand", (prefer,) * 600))
                self.assertEqual(solved(task, ((True, ("x", 0)),)), ("stand", (True,) * 600))
                half = [(True, ("x", 300))]
                first = tuple(prefer or k >= 300 for k in range(600))
                self.assertEqual(solved(task, tuple(half)), ("stand", first[::-1] if turned else first))

    def turned(self, task, turned):
        return Task(task.order[::-1], task.axioms[::-1]) if turned else task

    def test_a_chain_that_needs_two(self):
        """Each atom, and the other one of its pair, brings a pair: only what is learnt keeps this short."""
        rows = [[(True, ("a", 0)), (True, ("b", 0))]]
        for k in range(299):
            for here, there in itertools.product("ab", repeat=2):
                if here == there:
                    rows.append([(False, (here, k)), (True, ("a", k + 1)), (True, ("b", k + 1))])
            rows.append([(False, ("a", k)), (False, ("b", k))])
        rows += [[(False, ("a", 299))], [(False, ("b", 299))]]
        for prefer in (True, False):
            self.check_paper(named_task(rows, prefer), ())

    def test_just_one(self):
        for prefer in (True, False):
            task = just_one_task(150, prefer)
            first = tuple(k == 0 for k in range(150)) if prefer else tuple(k == 149 for k in range(150))
            self.assertEqual(solved(task, ()), ("stand", first))
            self.assertEqual(solved(task, ((True, ("x", 70)),)), ("stand", tuple(k == 70 for k in range(150))))
            self.check_paper(task, ((True, ("x", 3)), (True, ("x", 5))))
            self.check_paper(task, tuple((False, ("x", k)) for k in range(150)))

    def test_more_birds_than_holes(self):
        for birds, holes in [(2, 1), (3, 2), (4, 3), (5, 4), (5, 3)]:
            for prefer in (True, False):
                task = holes_task(birds, holes, prefer)
                self.check_paper(task, ())
                self.check_paper(Task(task.order[::-1], task.axioms[::-1]), ())

    def test_as_many_birds_as_holes(self):
        kind, stand = solved(holes_task(5, 5), ())
        self.assertEqual(kind, "stand")
        sits = [(bird, hole) for bird in range(5) for hole in range(5) if stand[5 * bird + hole]]
        self.assertEqual(sits, [(bird, bird) for bird in range(5)])

    def test_wide_clauses(self):
        atoms = [("x", k) for k in range(600)]
        rows = [[(True, atom) for atom in atoms]] + [[(False, atom)] for atom in atoms[:-1]]
        self.assertEqual(solved(named_task(rows), ()), ("stand", (False,) * 599 + (True,)))
        self.check_paper(named_task(rows + [[(False, atoms[-1])]]), ())
        rows = [[(True, atom) for atom in atoms], [(False, atom) for atom in atoms]]
        rows += [[(turn, ("x", k)), (not turn, ("x", k + 1))] for k in range(599) for turn in (True, False)]
        for prefer in (True, False):
            self.check_paper(named_task(rows, prefer), ())

    def test_many_atoms_and_few_axioms(self):
        order = tuple((("x", k), k % 2 == 0) for k in range(600))
        self.assertEqual(solved(Task(order, ()), ()), ("stand", tuple(k % 2 == 0 for k in range(600))))
        self.assertEqual(solved(Task(order, ()), ((False, ("x", 4)), (True, ("x", 5))))[1][3:7], (False, False, True, True))

    def test_clauses_of_three_by_chance(self):
        dice = chance(55)
        for many, thick in [(60, 43), (80, 30), (50, 60)]:
            atoms = [("x", k) for k in range(many)]
            rows = [sorted((dice.random() < 0.5, atom) for atom in dice.sample(atoms, 3)) for _ in range(many * thick // 10)]
            task = Task(tuple((atom, dice.random() < 0.5) for atom in atoms), tuple((("s", k), tuple(row)) for k, row in enumerate(rows)))
            kind, told = solved(task, ())
            if kind == "stand":
                self.assertTrue(is_fitting(task, (), told))
                self.assertTrue(fits(task, (), told))
            else:
                self.check_paper(task, ())


class FollowsTest(unittest.TestCase):
    def check(self, task, givens, literal):
        steps = follows(task, givens, literal)
        self.assertIsInstance(steps, tuple)
        clauses = judged(task, givens, steps)
        self.assertIn(clauses[-1], [frozenset(), frozenset([literal])])

    def test_plain(self):
        order = ((A, True), (B, False))
        task = Task(order, ((("s",), ((False, A), (True, B))),))
        self.check(task, ((True, A),), (True, B))
        self.check(task, ((True, A),), (True, A))
        self.check(task, ((False, B),), (False, A))
        self.check(task, ((False, B), (True, A)), (True, B))
        self.check(task, ((False, B), (True, A)), (False, B))
        self.assertIsNone(follows(task, ((True, A),), (False, B)))
        self.assertIsNone(follows(task, (), (True, B)))
        self.assertIsNone(follows(task, ((False, A),), (True, A)))
        self.assertIsNone(follows(task, ((False, A),), (True, B)))
        self.assertIsNone(follows(task, ((False, A),), (False, B)))

    def test_drawn(self):
        dice = chance(56)
        many = [0, 0]
        for _ in range(350):
            task, givens = some_task(dice, 5, 3)
            stands = fitting(task, givens)
            for at, (atom, _) in enumerate(task.order):
                for flag in (True, False):
                    if any(stand[at] != flag for stand in stands):
                        self.assertIsNone(follows(task, givens, (flag, atom)))
                        many[0] += 1
                    else:
                        self.check(task, givens, (flag, atom))
                        many[1] += 1
        self.assertGreater(min(many), 300)

    def test_large(self):
        task = chain_task(600, False, False)
        self.check(task, ((True, ("x", 0)),), (True, ("x", 599)))
        self.check(task, ((False, ("x", 599)),), (False, ("x", 0)))
        self.assertIsNone(follows(task, ((True, ("x", 5)),), (True, ("x", 4))))
        self.check(holes_task(5, 4), (), (True, ("sits", 2, 2)))

    def test_no_literal(self):
        task = Task(((A, True), (B, False)), ())
        for literal in [(1, A), (True, ("x", 3)), (True, ("x", True)), [True, A], (True,), (True, A, B), A, None, (None, A), (True, [A])]:
            self.assertIsNotNone(raised(NoLiteral, follows, task, (), literal))
        for thing in odd_things() + odd_tuples() + [nested(40), branching(40)]:
            self.assertIsNotNone(raised(NoLiteral, follows, task, (), thing))
            self.assertIsNotNone(raised(NoGivens, follows, task, [], thing))
            self.assertIsNotNone(raised(NoLiteral, follows, task, (), (True, thing)))


class NothingIsChangedTest(unittest.TestCase):
    def test_nothing_is_changed(self):
        dice = chance(57)
        for _ in range(40):
            task, givens = some_task(dice, 5)
            other = Task(tuple(list(task.order)), tuple(list(task.axioms)))
            self.assertEqual(solved(task, givens), solved(other, givens))
            if task.order:
                literal = (True, task.order[0][0])
                self.assertEqual(follows(task, givens, literal), follows(task, givens, literal))
            self.assertEqual(task, other)
            self.assertEqual(vars(task), vars(other))


if __name__ == "__main__":
    unittest.main()
