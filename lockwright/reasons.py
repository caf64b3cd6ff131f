"""The first right installation, or why there is none; which wishes clash; why a package or a version cannot be."""

from itertools import combinations

from lockwright.books import entry_of
from lockwright.choosing import Chooser
from lockwright.errors import NoName
from lockwright.inquiries import codes_of
from lockwright.installations import are_in
from lockwright.sayings import OF_WISHES, installed
from lockwright.search import solved
from lockwright.shapes import is_name
from lockwright.tasks import task_of


def answer(book, question):
    """("first", the first right installation), or ("none", a paper that there is none): TooMany."""
    task = task_of(book, question)
    kind, told = solved(task, ())
    if kind == "paper":
        return ("none", told)
    return ("first", installed(task.order, told))


def chooser_of_wishes(task, many):
    """The chooser of which the rows are so many wishes."""
    always = []
    rows = [[] for _ in range(many)]
    for source, clause in task.axioms:
        if source[0] in OF_WISHES:
            rows[source[1]].append(codes_of(task, clause))
        else:
            always.append(codes_of(task, clause))
    return Chooser(len(task.order), always, rows)


def lots_of(many):
    """All lots of so many numbers, by how many they are, then ascending."""
    return [lot for size in range(many + 1) for lot in combinations(range(many), size)]


def is_least(lot, found):
    """Whether none of the lots that were found is within a lot."""
    for other in found:
        if are_in(other, lot):
            return False
    return True


def clashes(book, question):
    """The list of the least lots of wishes that cannot all be met: TooMany."""
    many = len(question.wishes)
    chooser = chooser_of_wishes(task_of(book, question), many)
    found = []
    for lot in lots_of(many):
        if is_least(lot, found) and not chooser.is_met(lot):
            found.append(lot)
    return found


def given_up(book, question):
    """The list of the least lots of wishes without which the others can all be met: TooMany."""
    many = len(question.wishes)
    chooser = chooser_of_wishes(task_of(book, question), many)
    found = []
    for lot in lots_of(many):
        if is_least(lot, found) and chooser.is_met([at for at in range(many) if at not in lot]):
            found.append(lot)
    return found


def paper_against(task, literal):
    """A paper against a literal that is given, None if it is so in some stand that fits."""
    kind, told = solved(task, (literal,))
    if kind == "paper":
        return told
    return None


def why_not(book, question, name, version):
    """A paper against a package being there in a version, None if it may be: NoEntry, TooMany."""
    entry_of(book, name, version)
    return paper_against(task_of(book, question), (True, ("at", name, version)))


def why(book, question, name):
    """A paper against a package not being in, None if it may be out: NoName, TooMany."""
    if not is_name(name):
        raise NoName()
    task = task_of(book, question)
    if ("in", name) not in task.places:
        return None
    return paper_against(task, (False, ("in", name)))
