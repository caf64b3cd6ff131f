"""Papers made less."""

from lockwright.atoms import EMPTY
from lockwright.choosing import Chooser, least_unmet
from lockwright.errors import NoPaper, NoSources
from lockwright.inquiries import Inquiry, code_of, codes_of
from lockwright.papers import masks_of
from lockwright.tasks import mask_of_givens, number_of_source


def renamed(step, numbers):
    """A step that names others by other numbers."""
    if step[0] == "joined":
        return ("joined", numbers[step[1]], numbers[step[2]], step[3])
    return step


def leading(steps):
    """The numbers of the steps that lead to the last one, ascending."""
    found = [False] * len(steps)
    found[-1] = True
    for at in range(len(steps) - 1, -1, -1):
        if found[at] and steps[at][0] == "joined":
            found[steps[at][1]] = True
            found[steps[at][2]] = True
    return [at for at, flag in enumerate(found) if flag]


def trimmed_steps(steps, masks):
    """What is left of the steps of a paper, by the masks of their clauses."""
    first = {}
    for at, mask in enumerate(masks):
        first.setdefault(mask, at)
    firsts = [first[mask] for mask in masks]
    named = [renamed(step, firsts) for step in steps[:first[EMPTY] + 1]]
    left = leading(named)
    numbers = {at: number for number, at in enumerate(left)}
    return tuple([renamed(named[at], numbers) for at in left])


def trimmed_from(task, given, paper):
    """A paper trimmed, against literals that are told by their mask: NoPaper."""
    if not isinstance(paper, tuple):
        raise NoPaper()
    masks = masks_of(task, given, paper)
    if len(masks) < len(paper) or not masks or masks[-1] != EMPTY:
        raise NoPaper()
    return trimmed_steps(paper, masks)


def trimmed(task, givens, paper):
    """A paper cut, with each clause told once, and all that leads nowhere left out: NoGivens, NoPaper."""
    return trimmed_from(task, mask_of_givens(task, givens), paper)


def named_by(steps, kind):
    """The lot of what the steps of a kind name."""
    return tuple(sorted(set([step[1] for step in steps if step[0] == kind])))


def used(task, givens, paper):
    """The pair of the lots of sources and of givens of what a paper is trimmed to: NoGivens, NoPaper."""
    steps = trimmed(task, givens, paper)
    return (named_by(steps, "axiom"), named_by(steps, "given"))


def clause_of_source(task, source):
    """The clause of one of the sources of a task."""
    return task.axioms[task.numbers[source]][1]


def shortened(task, givens, paper):
    """A paper by some of what one uses, without any one of which there is none: NoGivens, NoPaper."""
    sources, literals = used(task, givens, paper)
    rows = [(clause_of_source(task, source), ("axiom", source)) for source in sources]
    rows.extend([((literal,), ("given", literal)) for literal in literals])
    chooser = Chooser(len(task.order), [], [[codes_of(task, clause)] for clause, _ in rows])
    least = least_unmet(chooser, list(range(len(rows))))
    if len(least) == len(rows):
        return trimmed(task, givens, paper)
    inquiry = Inquiry(task)
    for at in least:
        clause, step = rows[at]
        inquiry.add(clause, (step,))
    inquiry.engine.search()
    return tuple(inquiry.steps_to(inquiry.engine.failed))


def check_sources(task, sources):
    """Raises NoSources for what is no lot of sources of a task."""
    if not isinstance(sources, tuple):
        raise NoSources()
    ahead = None
    for source in sources:
        if number_of_source(task, source) is None or (ahead is not None and source <= ahead):
            raise NoSources()
        ahead = source


def is_kernel(task, givens, sources):
    """Whether nothing fits with the axioms of these sources, but something without any one: NoGivens, NoSources."""
    mask_of_givens(task, givens)
    check_sources(task, sources)
    always = [[code_of(task, literal)] for literal in givens]
    rows = [[codes_of(task, clause_of_source(task, source))] for source in sources]
    chooser = Chooser(len(task.order), always, rows)
    every = list(range(len(rows)))
    if chooser.is_met(every) or len(chooser.blamed()) < len(rows):
        return False
    for at in reversed(every):
        if not chooser.is_met(every[:at] + every[at + 1:]):
            return False
    return True
