"""Tasks made by chance or by a pattern, all their stands, and a judge of papers told apart from the program."""

import itertools

from lockwright.tasks import Task


def some_atoms(dice, many):
    """Unlike atoms of several shapes, in no order."""
    pool = [("x", k) for k in range(many)] + [("y", "abc"[k % 3], (k,)) for k in range(many)] + [("only",), ("z", (1, 2), 3, "w")]
    return dice.sample(pool, many)


def some_literals(dice, atoms, many):
    return tuple(sorted((dice.random() < 0.5, atom) for atom in dice.sample(atoms, many)))


def some_task(dice, most, thick=4):
    """A task of at most so many atoms, and givens."""
    atoms = some_atoms(dice, dice.randint(0, most))
    order = tuple((atom, dice.random() < 0.5) for atom in atoms)
    axioms = []
    for k in range(dice.randint(0, thick * len(atoms) + 1)):
        size = dice.choice([1] + [2] * 6 + [3] * 9 + [len(atoms)]) if dice.random() < 0.99 else 0
        axioms.append((("says", k), some_literals(dice, atoms, min(size, len(atoms)))))
    dice.shuffle(axioms)
    givens = some_literals(dice, atoms, dice.randint(0, min(2, len(atoms))))
    return Task(order, tuple(axioms)), givens


def every_stand(task):
    """All stands, each ahead of the next."""
    return [
        tuple(flag == (not turn) for (_, flag), turn in zip(task.order, turns))
        for turns in itertools.product([False, True], repeat=len(task.order))
    ]


def holds(task, stand, clause):
    so = {atom: flag for (atom, _), flag in zip(task.order, stand)}
    return any(so[atom] == flag for flag, atom in clause)


def fits(task, givens, stand):
    return all(holds(task, stand, clause) for _, clause in task.axioms) and all(holds(task, stand, (each,)) for each in givens)


def fitting(task, givens):
    return [stand for stand in every_stand(task) if fits(task, givens, stand)]


def judged(task, givens, steps):
    """The clauses of steps as sets of literals, None if a step is none."""
    axioms = dict(task.axioms)
    told = []
    for step in steps:
        if step[0] == "axiom":
            if step[1] not in axioms or len(step) != 2:
                return None
            told.append(frozenset(axioms[step[1]]))
        elif step[0] == "given":
            if step[1] not in givens or len(step) != 2:
                return None
            told.append(frozenset([step[1]]))
        else:
            _, i, j, atom = step
            if not (0 <= i < len(told) and 0 <= j < len(told)):
                return None
            one, other = told[i], told[j]
            if (True, atom) not in one or (False, atom) not in other:
                return None
            rest = (one - {(True, atom)}) | (other - {(False, atom)})
            if any((not flag, each) in rest for flag, each in rest):
                return None
            told.append(rest)
    return told


def is_judged_paper(task, givens, steps):
    told = judged(task, givens, steps)
    return isinstance(steps, tuple) and bool(told) and told[-1] == frozenset()


def named_task(rows, prefer=True):
    """The task of clauses of pairs (flag, atom), atoms in the order in which they come."""
    atoms = {}
    for row in rows:
        for _, atom in row:
            atoms[atom] = True
    order = tuple((atom, prefer) for atom in atoms)
    return Task(order, tuple((("row", k), tuple(sorted(row))) for k, row in enumerate(rows)))


def holes_task(birds, holes, prefer=True):
    """Each bird sits in a hole, and no two in one."""
    rows = [[(True, ("sits", bird, hole)) for hole in range(holes)] for bird in range(birds)]
    for hole in range(holes):
        for one, other in itertools.combinations(range(birds), 2):
            rows.append([(False, ("sits", one, hole)), (False, ("sits", other, hole))])
    return named_task(rows, prefer)


def chain_task(many, begin=True, end=True, prefer=True):
    """The first atom is so, each brings the next one, the last is not; without the first or the last row, if told so."""
    rows = [[(False, ("x", k)), (True, ("x", k + 1))] for k in range(many - 1)]
    if begin:
        rows.insert(0, [(True, ("x", 0))])
    if end:
        rows.append([(False, ("x", many - 1))])
    return named_task(rows, prefer)


def just_one_task(many, prefer=True):
    rows = [[(True, ("x", k)) for k in range(many)]]
    rows += [[(False, ("x", one)), (False, ("x", other))] for one, other in itertools.combinations(range(many), 2)]
    return named_task(rows, prefer)
