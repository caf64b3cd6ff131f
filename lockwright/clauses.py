"""Clauses: ascending tuples of literals, which are pairs of a flag and an atom."""


def clause_of(literals):
    """The clause of some literals of unlike atoms."""
    return tuple(sorted(literals))


def is_clause_so(so, clause):
    """Whether one of the literals of a clause is so, by the dict from each atom to whether it is."""
    for flag, atom in clause:
        if so[atom] == flag:
            return True
    return False


def first_unmet(axioms, so):
    """The source of the first axiom that is not so, None if all are."""
    for source, clause in axioms:
        if not is_clause_so(so, clause):
            return source
    return None


def so_in(order, stand):
    """The dict from each atom of an order to whether it is so in a stand."""
    return {pair[0]: flag for pair, flag in zip(order, stand)}
