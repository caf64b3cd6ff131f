"""Tasks: atoms in an order, each with what is preferred, and axioms; stands that fit."""

from lockwright.atoms import ATOM_MOST, SOURCE_MOST, Sort, kinds_of, mask_of, ranks_of
from lockwright.clauses import first_unmet, so_in
from lockwright.errors import BadTask, NoGivens, NoStand, TooMany
from lockwright.sayings import axioms_of, order_of
from lockwright.shapes import is_flag, is_flags, is_tuple_of, is_tuple_within

ORDER_MOST = 600
AXIOMS_MOST = 20000


def wrong_pair(order, sort):
    """The first part that is none of an order, None if all are; its atoms are numbered by the way."""
    if not is_tuple_within(ORDER_MOST, order):
        return "order"
    for at, pair in enumerate(order):
        if not is_tuple_of(2, pair) or not is_flag(pair[1]) or not sort.take(pair[0]):
            return ("order", at)
    return None


def wrong_axiom(axioms, sort, ranks, masks):
    """The first part that is none of axioms, None if all are; their masks are gathered by the way."""
    if not is_tuple_within(AXIOMS_MOST, axioms):
        return "axioms"
    for at, pair in enumerate(axioms):
        if not is_tuple_of(2, pair) or not sort.take(pair[0]):
            return ("axiom", at)
        mask = mask_of(ranks, pair[1])
        if mask is None:
            return ("axiom", at)
        masks.append(mask)
    return None


class Task:
    """An order and axioms; what is kept besides is told by these two."""

    def __init__(self, order, axioms):
        atoms = Sort(ATOM_MOST)
        part = wrong_pair(order, atoms)
        if part is not None:
            raise BadTask(part)
        sources = Sort(SOURCE_MOST)
        self.places = atoms.numbers
        self.ranks = ranks_of(list(atoms.numbers))
        self.masks = []
        part = wrong_axiom(axioms, sources, self.ranks, self.masks)
        if part is not None:
            raise BadTask(part)
        self.numbers = sources.numbers
        self.order = order
        self.axioms = axioms

    def __eq__(self, other):
        return isinstance(other, Task) and self.order == other.order and self.axioms == other.axioms


def task_of(book, question):
    """The task of all that a book and a question say: TooMany."""
    order = order_of(book, question)
    if len(order) > ORDER_MOST:
        raise TooMany(ORDER_MOST)
    axioms = axioms_of(book, question)
    if len(axioms) > AXIOMS_MOST:
        raise TooMany(AXIOMS_MOST)
    return Task(order, axioms)


def number_of_source(task, thing):
    """The number of the axiom of a source, None for what is none."""
    # As with atoms, only what looks like a source is looked up.
    if kinds_of(SOURCE_MOST, thing) is None:
        return None
    return task.numbers.get(thing, None)


def mask_of_givens(task, givens):
    """The mask of givens: NoGivens."""
    mask = mask_of(task.ranks, givens)
    if mask is None:
        raise NoGivens()
    return mask


def check_stand(task, stand):
    """Raises NoStand for what is no stand."""
    if not is_flags(len(task.order), stand):
        raise NoStand()


def first_not_given(task, givens, stand):
    """The first of the givens that is not so in a stand, None if all are."""
    so = so_in(task.order, stand)
    for flag, atom in givens:
        if so[atom] != flag:
            return (flag, atom)
    return None


def first_wrong(task, stand):
    """The source of the first axiom that is not so, None if all are: NoStand."""
    check_stand(task, stand)
    return first_unmet(task.axioms, so_in(task.order, stand))


def is_fitting(task, givens, thing):
    """Whether a thing is a stand that fits and in which the givens are so: NoGivens."""
    mask_of_givens(task, givens)
    if not is_flags(len(task.order), thing):
        return False
    return first_not_given(task, givens, thing) is None and first_wrong(task, thing) is None
