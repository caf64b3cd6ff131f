"""A running house: what runs, with all that it needs at every moment, and how it is led to another installation."""

from lockwright.errors import NoStart, NoStop, NotSafe
from lockwright.installations import bar_fault, entry_fault, is_installation, need_fault, needed_by, triples_by_name
from lockwright.needing import in_order, knots_of, needs_among
from lockwright.shapes import is_names, is_tuple_of


def is_safe(book, thing):
    """Whether a thing is an installation in which all that is needed is there, and nothing that is barred."""
    if not is_installation(thing) or entry_fault(book, thing) is not None:
        return False
    return need_fault(book, thing) is None and bar_fault(book, thing) is None


def check_safe(book, thing):
    """Nothing, unless a thing is not safe: NotSafe."""
    if not is_safe(book, thing):
        raise NotSafe()


class Running:
    """What runs of the packages of a book, and the moves that led to it."""

    def __init__(self, book):
        self.ground = book
        self.now = ()
        self.history = []

    def go(self, move, installation):
        """Does a move behind which an installation runs: NotSafe."""
        check_safe(self.ground, installation)
        self.now = installation
        self.history.append(move)

    def start(self, triples):
        """Starts some triples together: NoStart, NotSafe."""
        if not is_installation(triples):
            raise NoStart()
        there = triples_by_name(self.now)
        for triple in triples:
            if triple[0] in there:
                raise NoStart()
        self.go(("start", triples), tuple(sorted(self.now + triples)))

    def stop(self, names):
        """Stops the packages of some names together: NoStop, NotSafe."""
        if not is_names(names):
            raise NoStop()
        there = triples_by_name(self.now)
        for name in names:
            if name not in there:
                raise NoStop()
        self.go(("stop", names), tuple([triple for triple in self.now if triple[0] not in names]))

    def runs(self):
        """The installation that runs."""
        return self.now

    def moves(self):
        """The moves done so far."""
        return tuple(self.history)

    def copy(self):
        """Another Running, behind the same moves, that goes on apart."""
        other = Running(self.ground)
        other.now = self.now
        other.history = list(self.history)
        return other


def needers_of(book, installation):
    """The dict from the names that needs of an installation have to those of the packages that need them."""
    found = {}
    for triple in installation:
        for other in needed_by(book, triple):
            found.setdefault(other, []).append(triple[0])
    return found


def affected(book, old, new):
    """The lot of names of what must be stopped or started between two safe installations: NotSafe."""
    check_safe(book, old)
    check_safe(book, new)
    before = triples_by_name(old)
    behind = triples_by_name(new)
    names = sorted(set(list(before) + list(behind)))
    waiting = [name for name in names if before.get(name, None) != behind.get(name, None)]
    found = {name: True for name in waiting}
    # What is alike in both needs the same in both, so the needs of the old one tell all.
    needers = needers_of(book, old)
    while waiting:
        one = waiting.pop()
        for name in needers.get(one, []):
            if name not in found:
                found[name] = True
                waiting.append(name)
    return tuple(sorted(found))


def changeover(book, old, new):
    """Moves that lead from one safe installation to another, each of one knot of what is affected: NotSafe."""
    names = affected(book, old, new)
    moves = [("stop", lot) for lot in reversed(in_order(needs_among(book, old, names)))]
    there = triples_by_name(new)
    for lot in in_order(needs_among(book, new, names)):
        moves.append(("start", tuple([there[name] for name in lot])))
    return tuple(moves)


def is_move(thing):
    """Whether a thing is a pair that names a start or a stop, of whatever."""
    return is_tuple_of(2, thing) and (thing[0] == "start" or thing[0] == "stop")


def move_let(running, thing):
    """Does a thing as a move of a Running, and tells whether it is one and was let."""
    if not is_move(thing):
        return False
    kind, what = thing
    try:
        if kind == "start":
            running.start(what)
        else:
            running.stop(what)
    except (NoStart, NoStop, NotSafe):
        return False
    return True


def is_changeover(book, old, new, thing):
    """Whether a thing is a tuple of moves, each let, that lead from one safe installation to another: NotSafe."""
    check_safe(book, old)
    check_safe(book, new)
    if not isinstance(thing, tuple):
        return False
    running = Running(book)
    running.start(old)
    for move in thing:
        if not move_let(running, move):
            return False
    return running.now == new


def knots(book, installation):
    """The ascending list of the lots of packages of a safe installation that need one another by chains: NotSafe."""
    check_safe(book, installation)
    return knots_of(needs_among(book, installation, triples_by_name(installation)))
