"""What runs, moves and what they must leave be, told apart from the program; drawn safe installations."""

from lockwright.questions import Question
from worlds import Truth, all_installations, some_world

PLAIN = Question((), ())


def truth_of(book, installation):
    return Truth(book, PLAIN, installation)


def safe_ones(book):
    """All safe installations of a small book."""
    return [thing for thing in all_installations(book) if not truth_of(book, thing).faults()]


def some_safe_worlds(dice, many, most):
    """Pairs of a book and all its safe installations, at least 3 and at most so many."""
    found = []
    while len(found) < many:
        book = some_world(dice)[0]
        safe = safe_ones(book)
        if 3 <= len(safe) <= most:
            found.append((book, safe))
    return found


def needs_in(book, installation):
    """The set of the pairs (name, name needed) of a safe installation."""
    truth = truth_of(book, installation)
    return {(name, need[1]) for name, _, _ in installation for _, need in truth.needs(name)}


def chained(pairs):
    """All pairs that chains of pairs make."""
    while True:
        more = pairs | {(one, last) for one, other in pairs for again, last in pairs if other == again}
        if more == pairs:
            return pairs
        pairs = more


def told_knots(book, installation, names=None):
    """The knots of those of an installation that are among names, among themselves."""
    here = [name for name, _, _ in installation if names is None or name in names]
    chains = chained({(one, other) for one, other in needs_in(book, installation) if one in here and other in here})
    return sorted({
        tuple(sorted(other for other in here if other == name or ((name, other) in chains and (other, name) in chains))) for name in here
    })


def told_affected(book, old, new):
    """What is affected between two safe installations, by what the document says."""
    names = {triple[0] for triple in set(old) ^ set(new)}
    chains = chained(needs_in(book, old)) | chained(needs_in(book, new))
    return tuple(sorted(names | {one for one, other in chains if other in names}))


class Plain:
    """A Running, told once more: what runs is a dict, and each refusal is the name of its error."""

    def __init__(self, book, now=()):
        self.book = book
        self.now = {triple[0]: triple for triple in now}
        self.done = []

    def runs(self):
        return tuple(self.now[name] for name in sorted(self.now))

    def change(self, later, move):
        if truth_of(self.book, tuple(later[name] for name in sorted(later))).faults():
            return "NotSafe"
        self.now = later
        self.done.append(move)
        return None

    def start(self, triples):
        if any(triple[0] in self.now for triple in triples):
            return "NoStart"
        return self.change({**self.now, **{triple[0]: triple for triple in triples}}, ("start", triples))

    def stop(self, names):
        if any(name not in self.now for name in names):
            return "NoStop"
        return self.change({name: triple for name, triple in self.now.items() if name not in names}, ("stop", names))

    def go(self, move):
        return self.start(move[1]) if move[0] == "start" else self.stop(move[1])


def leads(book, old, new, moves):
    """Whether moves of the right form lead from old to new."""
    plain = Plain(book, old)
    return all(plain.go(move) is None for move in moves) and plain.runs() == new


def bent_moves(dice, moves, others):
    """Moves of which some stand elsewhere, or are left out, or beside which others stand."""
    bent = list(moves)
    for _ in range(dice.randint(0, 3)):
        if bent and dice.random() < 0.7:
            move = bent.pop(dice.randrange(len(bent)))
            bent.insert(dice.randint(0, len(bent)), move)
        elif bent and dice.random() < 0.5:
            bent.pop(dice.randrange(len(bent)))
        else:
            bent.insert(dice.randint(0, len(bent)), dice.choice(others))
    return tuple(bent)
