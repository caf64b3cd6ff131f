"""The judge of papers, that goes through their steps row by row."""

from lockwright.atoms import EMPTY, literals_of, mask_of, rank_of
from lockwright.errors import BadStep
from lockwright.shapes import is_number, is_tuple_of
from lockwright.tasks import mask_of_givens, number_of_source


def is_within(mask, other):
    """Whether all literals of a mask are in another one."""
    return mask[0] & other[0] == mask[0] and mask[1] & other[1] == mask[1]


def axiom_mask(task, source):
    """The mask of the clause of an axiom, None for no source."""
    number = number_of_source(task, source)
    if number is None:
        return None
    return task.masks[number]


def given_mask(task, given, literal):
    """The mask of a literal alone, None for what is none of those that are given, told by their mask."""
    mask = mask_of(task.ranks, (literal,))
    if mask is None or not is_within(mask, given):
        return None
    return mask


def joined_mask(one, other, bit):
    """The mask of two clauses joined at the atom of a bit, None where they cannot be."""
    # They clash at just this atom, and there this way round.
    if one[1] & other[0] != bit or one[0] & other[1] != 0:
        return None
    return (one[0] | (other[0] ^ bit), (one[1] ^ bit) | other[1])


def step_ahead(masks, thing):
    """The mask of the step that a thing is the number of, None if there is none so far."""
    if not is_number(thing) or thing >= len(masks):
        return None
    return masks[thing]


def step_mask(task, given, masks, step):
    """The mask of the clause of a step behind steps with these masks, None for what is no step."""
    if is_tuple_of(2, step) and step[0] == "axiom":
        return axiom_mask(task, step[1])
    if is_tuple_of(2, step) and step[0] == "given":
        return given_mask(task, given, step[1])
    if not is_tuple_of(4, step) or step[0] != "joined":
        return None
    one = step_ahead(masks, step[1])
    other = step_ahead(masks, step[2])
    rank = rank_of(task.ranks, step[3])
    if one is None or other is None or rank is None:
        return None
    return joined_mask(one, other, 1 << rank)


def masks_of(task, given, steps):
    """The masks of the clauses of all steps ahead of the first that is none."""
    masks = []
    for step in steps:
        mask = step_mask(task, given, masks, step)
        if mask is None:
            break
        masks.append(mask)
    return masks


def is_paper_from(task, given, thing):
    """Whether a thing is a paper against literals, perhaps at odds with one another, that are told by their mask."""
    if not isinstance(thing, tuple) or not thing:
        return False
    masks = masks_of(task, given, thing)
    return len(masks) == len(thing) and masks[-1] == EMPTY


def clauses_of(task, givens, thing):
    """The clauses of a tuple of steps: NoGivens, BadStep."""
    given = mask_of_givens(task, givens)
    if not isinstance(thing, tuple):
        raise BadStep(-1)
    masks = masks_of(task, given, thing)
    if len(masks) < len(thing):
        raise BadStep(len(masks))
    atoms = tuple(task.ranks)
    return tuple([literals_of(atoms, mask) for mask in masks])


def is_paper(task, givens, thing):
    """Whether a thing is a paper against givens: NoGivens."""
    return is_paper_from(task, mask_of_givens(task, givens), thing)
