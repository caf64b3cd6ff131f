"""Inquiries: a task with givens, put to the search, and the steps that tell how a clause came."""

from lockwright.engine import Engine


def code_of(task, literal):
    """The code of a literal."""
    flag, atom = literal
    place = task.places[atom]
    if flag == task.order[place][1]:
        return 2 * place
    return 2 * place + 1


def literal_of(task, code):
    """The literal of a code."""
    atom, preferred = task.order[code >> 1]
    return (preferred == (code & 1 == 0), atom)


def codes_of(task, clause):
    """The codes of the literals of a clause."""
    return [code_of(task, literal) for literal in clause]


def joined_step(steps, one, other, literal):
    """Adds the step that joins two, so that a literal of the one falls away; its number."""
    flag, atom = literal
    if flag:
        steps.append(("joined", one, other, atom))
    else:
        steps.append(("joined", other, one, atom))
    return len(steps) - 1


def moved(step, by):
    """A step as it is told behind so many others."""
    if step[0] == "joined":
        return ("joined", step[1] + by, step[2] + by, step[3])
    return step


class Inquiry:
    """The search for stands of a task; each clause that it is given has steps that lead to it."""

    def __init__(self, task):
        self.task = task
        self.engine = Engine(len(task.order))
        self.steps = {}

    def add(self, clause, steps):
        """Takes a clause, with steps of which it is the last one's."""
        number = self.engine.add(codes_of(self.task, clause))
        self.steps[number] = steps

    def stand(self):
        """The stand that was found."""
        truth = self.engine.truth
        return tuple([(truth[2 * place] > 0) == pair[1] for place, pair in enumerate(self.task.order)])

    def needed(self, number):
        """The numbers of all clauses that lead to one, ascending."""
        found = {number: True}
        waiting = [number]
        while waiting:
            each = waiting.pop()
            for _, other in self.engine.chains[each]:
                if other not in found:
                    found[other] = True
                    waiting.append(other)
        return sorted(found)

    def steps_to(self, number):
        """The list of steps that lead to a clause."""
        steps = []
        last = {}
        for each in self.needed(number):
            chain = self.engine.chains[each]
            if not chain:
                by = len(steps)
                steps.extend([moved(step, by) for step in self.steps[each]])
                last[each] = len(steps) - 1
                continue
            at = last[chain[0][1]]
            for code, other in chain[1:]:
                at = joined_step(steps, at, last[other], literal_of(self.task, code))
            last[each] = at
        return steps


def inquiry_of(task, givens):
    """The inquiry of a task with givens."""
    inquiry = Inquiry(task)
    for source, clause in task.axioms:
        inquiry.add(clause, (("axiom", source),))
    for literal in givens:
        inquiry.add((literal,), (("given", literal),))
    return inquiry
