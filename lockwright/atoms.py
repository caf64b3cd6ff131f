"""What atoms and sources look like, how literals are numbered, and which lots of literals there are.

A mask is a pair of integers, for a lot of literals of unlike atoms: the bits of the atoms that stand in it with False,
and those of the atoms that stand in it with True; a bit is told by the rank of an atom among all, ascending.
"""

from lockwright.shapes import is_flag, is_integer, is_tuple_of, is_tuple_within

ATOM_MOST = 4
SOURCE_MOST = 5
EMPTY = (0, 0)


def kind_of(thing):
    """The kind of an item of an atom or a source, None for what can be none."""
    if isinstance(thing, str):
        return "string"
    if is_integer(thing):
        return "integer"
    if not isinstance(thing, tuple):
        return None
    for part in thing:
        if not is_integer(part):
            return None
    return "integers"


def kinds_of(most, thing):
    """The kinds of the items of a tuple of 1 to so many items, a string first; None for what is none."""
    if not is_tuple_within(most, thing) or not thing or not isinstance(thing[0], str):
        return None
    kinds = tuple([kind_of(part) for part in thing])
    if None in kinds:
        return None
    return kinds


class Sort:
    """Unlike things of at most so many items; those with one first string have items of the same kinds."""

    def __init__(self, most):
        self.most = most
        self.kinds = {}
        self.numbers = {}

    def take(self, thing):
        """Numbers one more thing, and tells whether it may be one."""
        kinds = kinds_of(self.most, thing)
        if kinds is None or thing in self.numbers or self.kinds.setdefault(thing[0], kinds) != kinds:
            return False
        self.numbers[thing] = len(self.numbers)
        return True


def ranks_of(atoms):
    """The dict from each of some atoms to its rank among them, ascending."""
    return {atom: rank for rank, atom in enumerate(sorted(atoms))}


def rank_of(ranks, thing):
    """The rank of a thing among the atoms, None if it is none of them."""
    # Only what looks like an atom is looked up: True is as good as 1 there, and what is nested deep takes long.
    if kinds_of(ATOM_MOST, thing) is None:
        return None
    return ranks.get(thing, None)


def number_of_literal(ranks, thing):
    """The number of a literal among all literals, ascending; None for what is none."""
    if not is_tuple_of(2, thing) or not is_flag(thing[0]):
        return None
    rank = rank_of(ranks, thing[1])
    if rank is None:
        return None
    if thing[0]:
        return len(ranks) + rank
    return rank


def mask_of(ranks, thing):
    """The mask of an ascending tuple of literals of unlike atoms, None for what is none."""
    if not isinstance(thing, tuple):
        return None
    falses = trues = 0
    ahead = -1
    for literal in thing:
        number = number_of_literal(ranks, literal)
        if number is None or number <= ahead:
            return None
        ahead = number
        flag, atom = literal
        if flag:
            trues |= 1 << ranks[atom]
        else:
            falses |= 1 << ranks[atom]
    if falses & trues != 0:
        return None
    return (falses, trues)


def bits_of(bits):
    """The ranks of some bits, ascending."""
    found = []
    while bits != 0:
        # What a number has in common with its negative is its lowest bit.
        lowest = bits & -bits
        found.append(lowest.bit_length() - 1)
        bits ^= lowest
    return found


def literals_of(atoms, mask):
    """The ascending tuple of the literals of a mask, by the atoms, ascending."""
    falses, trues = mask
    first = [(False, atoms[rank]) for rank in bits_of(falses)]
    return (*first, *[(True, atoms[rank]) for rank in bits_of(trues)])
