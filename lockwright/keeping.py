"""What a house keeps: answers and lemmas, with what they hang on, and what of it stands behind an edit."""

from lockwright.books import versions
from lockwright.clauses import clause_of
from lockwright.errors import TooMany
from lockwright.inquiries import inquiry_of, literal_of
from lockwright.installations import is_right
from lockwright.questions import Question
from lockwright.sayings import axioms_of, installed, stand_of
from lockwright.tasks import task_of
from lockwright.trimming import clause_of_source, named_by, trimmed_from
from lockwright.warrants import warrant_found

# A house learns a little from each question; nothing but how long later searches take hangs on how much.
LEMMAS_MOST = 100
LEARNT_MOST = 100
LITERALS_MOST = 12
STEPS_MOST = 120


def grounds_of(task, papers):
    """The dict from each source that some papers name to its clause."""
    grounds = {}
    for steps in papers:
        for source in named_by(steps, "axiom"):
            grounds[source] = clause_of_source(task, source)
    return grounds


def papers_of(task, answer):
    """The dict from atoms to the papers of an answer; a paper that there is none stands under None."""
    if answer[0] == "none":
        return {None: answer[1]}
    return {pair[0]: paper for pair, paper in zip(task.order, answer[2]) if paper is not None}


class Kept:
    """A question and its answer, the papers of the answer by their atoms, and the axioms on which it hangs."""

    def __init__(self, task, question, answer):
        self.question = question
        self.answer = answer
        self.papers = papers_of(task, answer)
        self.grounds = grounds_of(task, list(self.papers.values()))


class Lemma:
    """A clause that was learnt, the steps that lead to it, and the axioms on which they hang."""

    def __init__(self, task, clause, steps):
        self.clause = clause
        self.steps = steps
        self.grounds = grounds_of(task, [steps])


def trimmed_alone(task, paper):
    """A paper trimmed, whatever is given."""
    every = (1 << len(task.order)) - 1
    return trimmed_from(task, (every, every), paper)


def inquiry_with(task, lemmas):
    """The inquiry of a task that begins with lemmas."""
    inquiry = inquiry_of(task, ())
    for lemma in lemmas:
        inquiry.add(lemma.clause, lemma.steps)
    return inquiry


def answer_found(inquiry):
    """The answer that an inquiry comes to."""
    task = inquiry.task
    if not inquiry.engine.search():
        return ("none", trimmed_alone(task, tuple(inquiry.steps_to(inquiry.engine.failed))))
    papers = []
    for paper in warrant_found(inquiry):
        if paper is not None:
            paper = trimmed_alone(task, paper)
        papers.append(paper)
    return ("first", installed(task.order, inquiry.stand()), tuple(papers))


def is_short(inquiry, number):
    """Whether a clause that was learnt is short enough to be kept."""
    engine = inquiry.engine
    return 0 < len(engine.clauses[number]) <= LITERALS_MOST and len(engine.chains[number]) > 1


def lemmas_found(book, inquiry, lemmas):
    """The lemmas that an inquiry adds to those that there are: what it learnt without wishes and locks."""
    short = [number for number in inquiry.engine.learnt[:LEARNT_MOST] if is_short(inquiry, number)]
    if not short:
        return []
    plain = task_of(book, Question((), ()))
    known = [lemma.clause for lemma in lemmas]
    found = []
    for number in short:
        clause = clause_of([literal_of(inquiry.task, code) for code in inquiry.engine.clauses[number]])
        steps = tuple(inquiry.steps_to(number))
        foreign = [source for source in named_by(steps, "axiom") if source not in plain.numbers]
        if len(steps) <= STEPS_MOST and not foreign and clause not in known:
            known.append(clause)
            found.append(Lemma(plain, clause, steps))
    return found[:max(0, LEMMAS_MOST - len(lemmas))]


def are_standing(grounds, clauses):
    """Whether each axiom on which something hangs has the same clause in the dict of those of now."""
    for source, clause in grounds.items():
        if clauses.get(source, None) != clause:
            return False
    return True


def standing_lemmas(lemmas, book):
    """The lemmas that stand by a book."""
    if not lemmas:
        return []
    clauses = {source: clause for source, clause in axioms_of(book, Question((), ()))}
    return [lemma for lemma in lemmas if are_standing(lemma.grounds, clauses)]


def inner_paper(atom):
    """A paper against a package that is not in being at a version."""
    _, name, version = atom
    return (
        ("axiom", ("inner", name, version)), ("given", (True, atom)), ("joined", 1, 0, atom),
        ("given", (False, ("in", name))), ("joined", 2, 3, ("in", name)),
    )


def warrant_now(task, stand, papers):
    """The warrant for a stand that has the papers that were there, and papers against the versions that are new."""
    found = []
    for (atom, preferred), flag in zip(task.order, stand):
        if flag == preferred:
            found.append(None)
        elif atom in papers:
            found.append(papers[atom])
        else:
            found.append(inner_paper(atom))
    return tuple(found)


def is_settled(book, later, question, installation):
    """Whether no package of an installation got or lost a version, and it is right by the later book."""
    for name, _, _ in installation:
        if versions(book, name) != versions(later, name):
            return False
    return is_right(later, question, installation)


def standing_answer(kept, book, later):
    """What is kept, as it stands when a book makes way for a later one; None if it goes."""
    try:
        task = task_of(later, kept.question)
    except TooMany:
        return None
    clauses = {source: clause for source, clause in task.axioms}
    if not are_standing(kept.grounds, clauses):
        return None
    if kept.answer[0] == "none":
        return kept
    installation = kept.answer[1]
    if not is_settled(book, later, kept.question, installation):
        return None
    stand = stand_of(later, kept.question, installation)
    return Kept(task, kept.question, ("first", installation, warrant_now(task, stand, kept.papers)))
