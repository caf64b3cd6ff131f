"""Fleets of machines, and how all of them are led to another installation while enough of them serve."""

from lockwright.errors import NoMachine, NoNumber, NoRollout, NoStart, NoStop, NotSafe
from lockwright.installations import triples_by_name
from lockwright.running import Running, affected, changeover, check_safe, is_move
from lockwright.shapes import is_number, is_tuple_of

MACHINES_MOST = 12


def check_many(many):
    """Nothing, unless a thing is no number of machines: NoNumber."""
    if not is_number(many) or not 1 <= many <= MACHINES_MOST:
        raise NoNumber()


def begun(book, installation):
    """A machine that runs an installation."""
    running = Running(book)
    running.start(installation)
    return running


class Fleet:
    """Machines, how many of them serve each name, and how few served those of the beginning so far."""

    def __init__(self, book, many, installation):
        check_many(many)
        check_safe(book, installation)
        self.machines = [begun(book, installation) for _ in range(many)]
        self.counts = {triple[0]: many for triple in installation}
        self.fewest = dict(self.counts)

    def machine_of(self, machine):
        """The Running of a machine: NoMachine."""
        if not is_number(machine) or machine >= len(self.machines):
            raise NoMachine()
        return self.machines[machine]

    def start(self, machine, triples):
        """Starts some triples together on a machine: NoMachine, NoStart, NotSafe."""
        self.machine_of(machine).start(triples)
        for name, _, _ in triples:
            self.counts[name] = self.serving(name) + 1

    def stop(self, machine, names):
        """Stops the packages of some names together on a machine: NoMachine, NoStop, NotSafe."""
        self.machine_of(machine).stop(names)
        for name in names:
            self.counts[name] = self.serving(name) - 1
            if name in self.fewest:
                self.fewest[name] = min(self.fewest[name], self.counts[name])

    def runs(self, machine):
        """The installation that runs on a machine: NoMachine."""
        return self.machine_of(machine).runs()

    def serving(self, name):
        """The number of machines on which a package of this name runs."""
        return self.counts.get(name, 0)

    def least_served(self):
        """The dict from each name of the first installation to the least number that served it so far."""
        return dict(self.fewest)

    def copy(self):
        """Another fleet, behind the same moves, that goes on apart."""
        other = Fleet(self.machines[0].ground, len(self.machines), ())
        other.machines = [running.copy() for running in self.machines]
        other.counts = dict(self.counts)
        other.fewest = dict(self.fewest)
        return other


def check_rollout(book, old, new, many, least):
    """Nothing, unless something of a rollout is none: NotSafe, NoNumber."""
    check_safe(book, old)
    check_safe(book, new)
    check_many(many)
    if not is_number(least) or least > many:
        raise NoNumber()


def names_in_both(old, new):
    """The names that are in both of two installations."""
    there = triples_by_name(new)
    return [triple[0] for triple in old if triple[0] in there]


def rollout(book, old, new, many, least):
    """Moves that lead each machine to another installation while enough serve: NotSafe, NoNumber, NoRollout."""
    check_rollout(book, old, new, many, least)
    both = names_in_both(old, new)
    if least == many and [name for name in affected(book, old, new) if name in both]:
        raise NoRollout()
    moves = changeover(book, old, new)
    return tuple([(machine, move) for machine in range(many) for move in moves])


def move_let_on(fleet, thing):
    """Does a thing as a move on a machine, and tells whether it is one and was let."""
    if not is_tuple_of(2, thing) or not is_move(thing[1]):
        return False
    machine, (kind, what) = thing
    try:
        if kind == "start":
            fleet.start(machine, what)
        else:
            fleet.stop(machine, what)
    except (NoMachine, NoStart, NoStop, NotSafe):
        return False
    return True


def is_rollout(book, old, new, many, least, thing):
    """Whether a thing is a tuple of such moves, each let, that rollout could tell: NotSafe, NoNumber."""
    check_rollout(book, old, new, many, least)
    if not isinstance(thing, tuple):
        return False
    fleet = Fleet(book, many, old)
    for move in thing:
        if not move_let_on(fleet, move):
            return False
    served = fleet.least_served()
    for name in names_in_both(old, new):
        if served[name] < least:
            return False
    for machine in range(many):
        if fleet.runs(machine) != new:
            return False
    return True
