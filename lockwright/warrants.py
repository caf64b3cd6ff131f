"""Warrants that a stand is the first, and the stands behind it."""

from lockwright.atoms import mask_of
from lockwright.blame import NOTHING
from lockwright.errors import NoNumber, NotFirst, NotFitting, NotGiven
from lockwright.inquiries import code_of, inquiry_of, joined_step, literal_of
from lockwright.papers import is_paper_from
from lockwright.shapes import is_number, is_tuple_of
from lockwright.tasks import check_stand, first_not_given, first_wrong, mask_of_givens

STANDS_MOST = 200


def paper_at(inquiry, place):
    """A paper against what is preferred at a place, by what is so ahead of it in the stand that was found."""
    task = inquiry.task
    number = inquiry.engine.unwind(2 * place + 1, place)
    steps = inquiry.steps_to(number)
    at = len(steps) - 1
    for code in inquiry.engine.clauses[number]:
        steps.append(("given", literal_of(task, code ^ 1)))
        at = joined_step(steps, at, len(steps) - 1, literal_of(task, code))
    return tuple(steps)


def warrant_found(inquiry):
    """A warrant for the stand that was found with nothing assumed."""
    truth = inquiry.engine.truth
    papers = []
    for place in range(len(inquiry.task.order)):
        if truth[2 * place] > 0:
            papers.append(None)
        else:
            papers.append(paper_at(inquiry, place))
    return tuple(papers)


def check_fitting(task, givens, stand):
    """Raises NotFitting or NotGiven for the first axiom or given that is not so."""
    source = first_wrong(task, stand)
    if source is not None:
        raise NotFitting(source)
    literal = first_not_given(task, givens, stand)
    if literal is not None:
        raise NotGiven(literal)


def warrant(task, givens, stand):
    """A warrant for a stand: NoGivens, NoStand, NotFitting, NotGiven, NotFirst."""
    mask_of_givens(task, givens)
    check_fitting(task, givens, stand)
    inquiry = inquiry_of(task, givens)
    inquiry.engine.search()
    for place, flag in enumerate(inquiry.stand()):
        # What is first is ahead of the stand at the first place at which they are unlike.
        if flag != stand[place]:
            raise NotFirst(place)
    return warrant_found(inquiry)


def with_literal(task, mask, literal):
    """A mask with one more literal, perhaps at odds with another one."""
    falses, trues = mask_of(task.ranks, (literal,))
    return (mask[0] | falses, mask[1] | trues)


def is_warrant(task, givens, stand, thing):
    """Whether a thing is a warrant for a stand: NoGivens, NoStand."""
    given = mask_of_givens(task, givens)
    check_stand(task, stand)
    if not is_tuple_of(len(stand), thing):
        return False
    for (atom, preferred), flag, paper in zip(task.order, stand, thing):
        if flag == preferred:
            if paper is not None:
                return False
        elif not is_paper_from(task, with_literal(task, given, (preferred, atom)), paper):
            return False
        given = with_literal(task, given, (flag, atom))
    return True


def codes_of_stand(task, stand):
    """The codes of all that is so in a stand."""
    return [code_of(task, (flag, pair[0])) for pair, flag in zip(task.order, stand)]


def last_blamed(engine):
    """The last place that the clause names by which nothing fits, NOTHING if it names none."""
    return max([code >> 1 for code in engine.clauses[engine.failed]], default=NOTHING)


def lead_behind(engine, codes):
    """Leads the search to the first stand behind that of these codes, and tells whether there is one.

    What is assumed is a beginning of these codes. A stand behind them is like them up to some place at which they have
    what is preferred; the later this place, the earlier the stand.
    """
    engine.assume(codes[len(engine.assumed):])
    reach = len(codes)
    if not engine.search():
        reach = last_blamed(engine)
    for place in range(len(codes) - 1, -1, -1):
        # Nothing fits that is like this up to the last place that was blamed, or unlike what this brings.
        if codes[place] & 1 == 0 and place <= reach and not engine.is_brought(codes[place], place):
            engine.drop(place)
            engine.assume([codes[place] ^ 1])
            if engine.search():
                return True
            reach = last_blamed(engine)
    return False


def next_stand(task, givens, stand):
    """The first of the stands that fit with the givens behind a stand, None if there is none: NoGivens, NoStand."""
    mask_of_givens(task, givens)
    check_stand(task, stand)
    inquiry = inquiry_of(task, givens)
    if lead_behind(inquiry.engine, codes_of_stand(task, stand)):
        return inquiry.stand()
    return None


def all_stands(task, givens, many):
    """The list of the first so many stands that fit with the givens, ahead of one another: NoGivens, NoNumber."""
    mask_of_givens(task, givens)
    if not is_number(many) or many > STANDS_MOST:
        raise NoNumber()
    inquiry = inquiry_of(task, givens)
    stands = []
    more = many > 0 and inquiry.engine.search()
    while more:
        stand = inquiry.stand()
        stands.append(stand)
        more = len(stands) < many and lead_behind(inquiry.engine, codes_of_stand(task, stand))
    return stands
