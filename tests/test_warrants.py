"""Promise 5.4: warrants, and the stands behind one."""

import unittest

from drawn import chain_task, every_stand, fits, fitting, holds, is_judged_paper, just_one_task, some_task
from lockwright.errors import NoGivens, NoNumber, NoStand, NotFirst, NotFitting, NotGiven
from lockwright.search import solved
from lockwright.tasks import Task
from lockwright.warrants import all_stands, is_warrant, next_stand, warrant
from samples import branching, chance, nested, odd_things, odd_tuples, raised

A, B, C = ("x", 1), ("x", 2), ("x", 3)
ORDER = ((A, True), (B, True), (C, False))
TASK = Task(ORDER, ((("s",), ((False, A), (False, B))), (("t",), ((True, B), (True, C)))))
FIRST = (True, False, True)


def literals_at(task, givens, stand, place):
    """What is given of the paper at a place: givens, the literals ahead as the stand has them, the preferred one."""
    ahead = [(flag, atom) for (atom, _), flag in zip(task.order[:place], stand)]
    atom, preferred = task.order[place]
    return list(givens) + ahead + [(preferred, atom)]


def is_judged_warrant(task, givens, stand, thing):
    if not isinstance(thing, tuple) or len(thing) != len(stand):
        return False
    for place, paper in enumerate(thing):
        if stand[place] == task.order[place][1]:
            if paper is not None:
                return False
        elif not isinstance(paper, tuple) or not is_judged_paper(task, literals_at(task, givens, stand, place), paper):
            return False
    return True


class WarrantTest(unittest.TestCase):
    def test_plain(self):
        told = warrant(TASK, (), FIRST)
        self.assertIs(is_warrant(TASK, (), FIRST, told), True)
        self.assertTrue(is_judged_warrant(TASK, (), FIRST, told))
        self.assertEqual([paper is None for paper in told], [True, False, False])
        self.assertEqual(warrant(Task((), ()), (), ()), ())
        self.assertEqual(warrant(Task(ORDER, ()), (), (True, True, False)), (None, None, None))

    def test_by_hand(self):
        second = (("axiom", ("s",)), ("given", (True, A)), ("given", (True, B)), ("joined", 1, 0, A), ("joined", 2, 3, B))
        third = (("axiom", ("t",)), ("given", (False, B)), ("given", (False, C)), ("joined", 0, 1, B), ("joined", 3, 2, C))
        self.assertIs(is_warrant(TASK, (), FIRST, (None, second, third)), True)
        for thing in [
            [None, second, third], (None, second), (None, second, third, None), (None, None, third), (None, second, None), (second, second, third),
            ((), second, third), (None, third, second), (None, second, third[:-1]), (None, second[1:], third), (None, list(second), third),
            (None, second, third + (("given", (True, C)),)), (None, second, second), (None, third, third), (None, (), third), None,
        ]:
            self.assertIs(is_warrant(TASK, (), FIRST, thing), False, thing)

    def test_what_is_given_ahead_only(self):
        """A paper may use what is so ahead of its place, the preferred literal of it, and givens; nothing behind."""
        task = Task(ORDER, ((("s",), ((False, A), (True, C))), (("t",), ((False, B), (False, C)))))
        stand = (True, False, True)
        behind = (("axiom", ("t",)), ("given", (True, B)), ("given", (True, C)), ("joined", 1, 0, B), ("joined", 2, 3, C))
        other = (("axiom", ("s",)), ("given", (True, A)), ("joined", 1, 0, A), ("given", (False, C)), ("joined", 2, 3, C))
        right = (("axiom", ("t",)), ("given", (True, B)), ("joined", 1, 0, B), ("axiom", ("s",)), ("given", (True, A)), ("joined", 4, 3, A), ("joined", 5, 2, C))
        self.assertIs(is_warrant(task, (), stand, (None, right, other)), True)
        self.assertIs(is_warrant(task, (), stand, (None, behind, other)), False)
        self.assertIs(is_warrant(task, ((True, C),), stand, (None, behind, other)), True)
        self.assertIs(is_warrant(task, ((True, B),), stand, (None, right, other)), True)
        wrong_way = (("axiom", ("s",)), ("given", (True, A)), ("joined", 1, 0, A), ("given", (True, C)), ("joined", 2, 3, C))
        self.assertIs(is_warrant(task, (), stand, (None, right, wrong_way)), False)

    def test_a_given_stays_given(self):
        task = Task(ORDER, ())
        givens = ((False, B),)
        stand = (True, False, False)
        told = warrant(task, givens, stand)
        self.assertIs(is_warrant(task, givens, stand, told), True)
        two = (("given", (True, B)), ("given", (False, B)), ("joined", 0, 1, B))
        self.assertIs(is_warrant(task, givens, stand, (None, two, None)), True)
        self.assertIs(is_warrant(task, (), stand, (None, two, None)), False)

    def test_bent_at_one_place(self):
        """Early or late: each paper, and each step of it, is looked at."""
        task = chain_task(40, True, False, False)
        stand = (True,) * 40
        told = warrant(task, (), stand)
        self.assertIs(is_warrant(task, (), stand, told), True)
        for place in (0, 1, 20, 38, 39):
            for bent in [None, (), told[place][:-1], told[place] + (("axiom", ("row", 0)),), told[place][:1] + (None,) + told[place][2:]]:
                self.assertIs(is_warrant(task, (), stand, told[:place] + (bent,) + told[place + 1:]), False)
        self.assertIs(is_warrant(task, (), stand, told[:-1]), False)
        self.assertIs(is_warrant(task, (), stand, told + (None,)), False)

    def test_any_thing(self):
        for thing in odd_things() + odd_tuples() + [nested(40), branching(40)]:
            self.assertIs(is_warrant(TASK, (), FIRST, thing), False)
            self.assertIs(is_warrant(TASK, (), FIRST, (None, thing, thing)), False)

    def test_errors_in_their_order(self):
        odd = odd_things() + odd_tuples() + [nested(40), branching(40)]
        for thing in [[], ((True, A), (False, A)), ((True, B), (True, A))] + odd:
            self.assertIsNotNone(raised(NoGivens, warrant, TASK, thing, None))
            self.assertIsNotNone(raised(NoGivens, is_warrant, TASK, thing, None, None))
            self.assertIsNotNone(raised(NoGivens, next_stand, TASK, thing, None))
            self.assertIsNotNone(raised(NoGivens, all_stands, TASK, thing, None))
        for thing in [(), (True, False), list(FIRST), (1, 0, 1), FIRST + (True,)] + odd:
            if thing != (True, True, True):
                self.assertIsNotNone(raised(NoStand, warrant, TASK, ((False, A),), thing))
                self.assertIsNotNone(raised(NoStand, is_warrant, TASK, (), thing, None))
                self.assertIsNotNone(raised(NoStand, next_stand, TASK, (), thing))
        self.assertEqual(raised(NotFitting, warrant, TASK, ((False, A),), (True, True, False)).source, ("s",))
        self.assertEqual(raised(NotFitting, warrant, TASK, (), (False, False, False)).source, ("t",))
        self.assertEqual(raised(NotGiven, warrant, TASK, ((False, A), (False, B)), (True, False, True)).literal, (False, A))
        self.assertEqual(raised(NotGiven, warrant, TASK, ((False, B), (False, C)), (True, False, True)).literal, (False, C))
        self.assertEqual(raised(NotFirst, warrant, TASK, (), (False, False, True)).place, 0)
        self.assertEqual(raised(NotFirst, warrant, TASK, ((False, A),), (False, False, True)).place, 1)
        self.assertEqual(raised(NotFirst, warrant, TASK, ((False, A),), (False, True, True)).place, 2)

    def test_drawn(self):
        """The fifth step, and each error, by going through all stands."""
        dice = chance(54)
        kinds = {}
        for _ in range(220):
            task, givens = some_task(dice, 5, 2)
            stands = fitting(task, givens)
            for stand in every_stand(task):
                wrong = [source for source, clause in task.axioms if not holds(task, stand, clause)]
                missing = [literal for literal in givens if not holds(task, stand, (literal,))]
                if wrong:
                    self.assertEqual(raised(NotFitting, warrant, task, givens, stand).source, wrong[0])
                elif missing:
                    self.assertEqual(raised(NotGiven, warrant, task, givens, stand).literal, missing[0])
                elif stand != stands[0]:
                    place = [one == other for one, other in zip(stand, stands[0])].index(False)
                    self.assertEqual(raised(NotFirst, warrant, task, givens, stand).place, place)
                else:
                    told = warrant(task, givens, stand)
                    self.assertIs(is_warrant(task, givens, stand, told), True)
                    self.assertTrue(is_judged_warrant(task, givens, stand, told))
                    self.assertEqual(told, warrant(task, givens, stand))
                    kinds["bent"] = kinds.get("bent", 0) + self.check_bent(dice, task, givens, stand, told)
                kind = "wrong" if wrong else "missing" if missing else "first" if stand == stands[0] else "later"
                kinds[kind] = kinds.get(kind, 0) + 1
        for kind in ["wrong", "missing", "first", "later", "bent"]:
            self.assertGreater(kinds[kind], 50, kind)

    def check_bent(self, dice, task, givens, stand, told):
        many = 0
        for place, paper in enumerate(told):
            if paper is not None:
                at = dice.randrange(len(paper))
                step = dice.choice([("axiom", ("says", dice.randint(0, 9))), ("given", (dice.random() < 0.5, dice.choice(task.order)[0]))])
                bent = told[:place] + (paper[:at] + (step,) + paper[at + 1:],) + told[place + 1:]
                self.assertIs(is_warrant(task, givens, stand, bent), is_judged_warrant(task, givens, stand, bent))
                many += not is_warrant(task, givens, stand, bent)
        return many

    def test_large(self):
        for task in [chain_task(600, True, False, False), chain_task(600, True, False, True), just_one_task(120, True), just_one_task(120, False)]:
            for turned in [task, Task(task.order[::-1], task.axioms)]:
                stand = solved(turned, ())[1]
                self.assertIs(is_warrant(turned, (), stand, warrant(turned, (), stand)), True)


class NextTest(unittest.TestCase):
    def test_plain(self):
        self.assertEqual(all_stands(TASK, (), 200), [(True, False, True), (False, True, False), (False, True, True), (False, False, True)])
        self.assertEqual(next_stand(TASK, (), (True, False, True)), (False, True, False))
        self.assertEqual(next_stand(TASK, (), (True, True, False)), (True, False, True))
        self.assertEqual(next_stand(TASK, (), (False, True, True)), (False, False, True))
        self.assertIsNone(next_stand(TASK, (), (False, False, True)))
        self.assertEqual(next_stand(TASK, ((True, C),), (True, False, True)), (False, True, True))
        self.assertIsNone(next_stand(TASK, ((True, A),), (True, False, True)))
        self.assertIsNone(next_stand(Task((), ()), (), ()))
        self.assertEqual(all_stands(Task((), ()), (), 5), [()])
        self.assertEqual(all_stands(Task((), ((("n",), ()),)), (), 5), [])

    def test_numbers(self):
        for many in [-1, 201, True, False, None, "1", 10 ** 11] + odd_things():
            if many not in (0, 1) or isinstance(many, bool):
                self.assertIsNotNone(raised(NoNumber, all_stands, TASK, (), many), many)
        for many in range(6):
            self.assertEqual(len(all_stands(TASK, (), many)), min(many, 4))
        self.assertEqual(all_stands(TASK, (), 0), [])

    def test_a_new_list_each_time(self):
        one = all_stands(TASK, (), 3)
        other = all_stands(TASK, (), 3)
        self.assertEqual(one, other)
        one.clear()
        self.assertEqual(all_stands(TASK, (), 3), other)
        self.assertIsInstance(one, list)

    def test_drawn(self):
        dice = chance(55)
        for _ in range(250):
            task, givens = some_task(dice, 6, 2)
            stands = fitting(task, givens)
            for many in (0, 1, 2, 5, 200):
                self.assertEqual(all_stands(task, givens, many), stands[:many])
            every = every_stand(task)
            for at in dice.sample(range(len(every)), min(12, len(every))):
                behind = [stand for stand in every[at + 1:] if fits(task, givens, stand)]
                self.assertEqual(next_stand(task, givens, every[at]), behind[0] if behind else None)

    def test_large(self):
        chain = chain_task(600, False, False, True)
        stands = all_stands(chain, (), 200)
        self.assertEqual(stands, [tuple(k >= zeros for k in range(600)) for zeros in range(200)])
        self.assertEqual(next_stand(chain, (), stands[150]), stands[151])
        self.assertIsNone(next_stand(chain, (), (False,) * 600))
        loose = Task(tuple((("x", k), True) for k in range(600)), ())
        stands = all_stands(loose, (), 200)
        self.assertEqual(stands, [tuple(k < 592 or not (at >> (599 - k)) & 1 for k in range(600)) for at in range(200)])
        one = just_one_task(120)
        self.assertEqual(all_stands(one, (), 200), [tuple(k == at for k in range(120)) for at in range(120)])


if __name__ == "__main__":
    unittest.main()
