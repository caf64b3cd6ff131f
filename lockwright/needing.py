"""What needs what: chains of needs, the knots that they make, and an order in which each knot has what it needs."""

from lockwright.installations import needed_by


def needs_among(book, installation, names):
    """The dict from each of an installation's packages that is among some names to those of them that it needs."""
    found = {}
    for triple in installation:
        if triple[0] in names:
            found[triple[0]] = [other for other in needed_by(book, triple) if other in names]
    return found


def led_to(needs, name):
    """The dict of the names to which chains of needs lead from a name, itself too."""
    found = {name: True}
    waiting = [name]
    while waiting:
        one = waiting.pop()
        for other in needs[one]:
            if other not in found:
                found[other] = True
                waiting.append(other)
    return found


def knots_of(needs):
    """The ascending list of the lots of names that need one another by chains."""
    ways = {name: led_to(needs, name) for name in needs}
    found = []
    for name in sorted(needs):
        lot = tuple([other for other in sorted(ways[name]) if name in ways[other]])
        if lot[0] == name:
            found.append(lot)
    return found


def is_next(needs, lot, done):
    """Whether all that a knot needs outside itself is done."""
    for name in lot:
        for other in needs[name]:
            if other not in done and other not in lot:
                return False
    return True


def in_order(needs):
    """The list of the knots, each behind all that it needs, of those that could be next the least first."""
    waiting = knots_of(needs)
    done = {}
    found = []
    while waiting:
        ready = [lot for lot in waiting if is_next(needs, lot, done)]
        # The knots that wait are ascending.
        least = ready[0]
        waiting.remove(least)
        found.append(least)
        for name in least:
            done[name] = True
    return found
