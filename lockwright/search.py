"""The first stand that fits, or a paper that none does; and what follows from givens."""

from lockwright.atoms import number_of_literal
from lockwright.errors import NoLiteral
from lockwright.inquiries import code_of, inquiry_of
from lockwright.tasks import mask_of_givens


def solved(task, givens):
    """("stand", the first that fits with the givens), or ("paper", one against them): NoGivens."""
    mask_of_givens(task, givens)
    inquiry = inquiry_of(task, givens)
    if inquiry.engine.search():
        return ("stand", inquiry.stand())
    return ("paper", tuple(inquiry.steps_to(inquiry.engine.failed)))


def follows(task, givens, literal):
    """Steps to a literal that is so in all stands that fit with the givens, None for another: NoGivens, NoLiteral."""
    mask_of_givens(task, givens)
    if number_of_literal(task.ranks, literal) is None:
        raise NoLiteral()
    inquiry = inquiry_of(task, givens)
    # It is so in all of them exactly if none is found where it is assumed not to be.
    inquiry.engine.assume([code_of(task, literal) ^ 1])
    if inquiry.engine.search():
        return None
    return tuple(inquiry.steps_to(inquiry.engine.failed))
