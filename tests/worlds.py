"""Small books and questions made by chance, all installations of them, and what is right, told apart from the program."""

import itertools

from lockwright.ahead import choices, priority
from lockwright.books import Book
from lockwright.questions import Question
from lockwright.ranges import read_range
from samples import entry

NAMES = ("a", "b", "c", "d")
RANGES = ("*", "*", "*", "*", "1.0.0", "2.0.0", ">=2.0.0", "<2.0.0", "<0.0.0")


def some_rng(dice):
    return read_range(dice.choice(RANGES))


def some_wanted(dice):
    return dice.choice([(), (), (), ("f",), ("f",), ("g",), ("g",), ("f", "g")])


def some_features(dice):
    names = dice.choice([(), ("f",), ("f", "g"), ("f", "g"), ("f", "g")])
    turns = [dice.choice([(), (), tuple(other for other in names if other != name)]) for name in names]
    return tuple(zip(names, turns))


def some_world_entry(dice, name, version):
    features = some_features(dice)
    others = [other for other in NAMES if other != name]
    offers = [""] + [feature for feature, _ in features]
    needs = tuple(
        (dice.choice(offers), dice.choice(others), some_rng(dice), some_wanted(dice)) for _ in range(dice.randint(0, 3))
    )
    bars = tuple((dice.choice(others), some_rng(dice)) for _ in range(dice.choice([0, 0, 0, 1])))
    return entry(name, version, features, needs, bars)


def some_world(dice):
    """A book of at most four packages, each with at most two versions, and a question."""
    entries = []
    for name in NAMES[:dice.randint(1, 4)]:
        for major in dice.choice([(1,), (2,), (1, 2), (1, 2)]):
            entries.append(some_world_entry(dice, name, (major, 0, 0)))
    wishes = tuple((dice.choice(NAMES[:3]), some_rng(dice), some_wanted(dice)) for _ in range(dice.randint(0, 2)))
    locks = tuple((name, (dice.randint(1, 3), 0, 0)) for name in NAMES if dice.random() < 0.4)
    return Book(tuple(entries)), Question(wishes, locks)


def lots(names):
    return [lot for many in range(len(names) + 1) for lot in itertools.combinations(names, many)]


def all_installations(book):
    """Each tuple of triples of entries of a book, with whatever of their features."""
    ways = {}
    for one in book.entries:
        ways.setdefault(one.name, [None]).extend(
            (one.name, one.version, lot) for lot in lots([feature for feature, _ in one.features])
        )
    for picked in itertools.product(*ways.values()):
        yield tuple(triple for triple in picked if triple is not None)


def first_by_all(book, question):
    """The first right installation by going through all of them, None if there is none."""
    right = [thing for thing in all_installations(book) if Truth(book, question, thing).fault() is None]
    key = lambda thing: [choices(book, question, name).index({n: v for n, v, _ in thing}.get(name)) for name in priority(book, question)]
    return min(right, key=key) if right else None


class Truth:
    """What the document says of one installation, said once more and plainly."""

    def __init__(self, book, question, installation):
        self.question = question
        self.installation = installation
        self.there = {name: (version, features) for name, version, features in installation}
        self.entries = {(one.name, one.version): one for one in book.entries}

    def entry(self, name):
        return self.entries[(name, self.there[name][0])]

    def met(self, name, rng, wanted):
        if name not in self.there:
            return False
        version, features = self.there[name]
        return any(low <= version and (high is None or version < high) for low, high in rng) and set(wanted) <= set(features)

    def needs(self, name):
        features = self.there[name][1]
        return [(at, need) for at, need in enumerate(self.entry(name).needs) if need[0] == "" or need[0] in features]

    def faults(self):
        """All faults by (a) to (d), in the order in which they are to be told."""
        told = [("entry", name) for name, version, _ in self.installation if (name, version) not in self.entries]
        if told:
            return told
        for name, _, features in self.installation:
            turns = dict(self.entry(name).features)
            if any(one not in turns or not set(turns[one]) <= set(features) for one in features):
                told.append(("feature", name))
        told += [("wish", at) for at, wish in enumerate(self.question.wishes) if not self.met(*wish)]
        for name, _, _ in self.installation:
            told += [("need", name, at) for at, need in self.needs(name) if not self.met(*need[1:])]
        for name, _, _ in self.installation:
            bars = self.entry(name).bars
            told += [("bar", name, at) for at, (other, rng) in enumerate(bars) if self.met(other, rng, ())]
        return told

    def reached(self):
        """The pairs (package, "") and (package, feature) that are come to, by going round until nothing comes."""
        pairs = {(name, part) for name, _, wanted in self.question.wishes for part in ("",) + wanted}
        while True:
            more = set(pairs)
            for name, part in pairs:
                one = self.entry(name)
                if part:
                    more |= {(name, other) for other in dict(one.features)[part]}
                for feature, other, _, wanted in one.needs:
                    if feature == part:
                        more |= {(other, each) for each in ("",) + wanted}
            if more == pairs:
                return pairs
            pairs = more

    def fault(self):
        told = self.faults()
        if told:
            return told[0]
        pairs = self.reached()
        for name, _, _ in self.installation:
            if (name, "") not in pairs:
                return ("unwanted", name)
        for name, _, features in self.installation:
            if any((name, feature) not in pairs for feature in features):
                return ("unwanted", name)
        return None

    def core(self):
        pairs = self.reached()
        return tuple(
            (name, version, tuple(feature for feature in features if (name, feature) in pairs))
            for name, version, features in self.installation if (name, "") in pairs
        )

    def ways(self, most):
        """All ways from a wish, with at most so many packages."""
        ways = [(at, wish[0]) for at, wish in enumerate(self.question.wishes)]
        told = list(ways)
        for _ in range(most - 1):
            ways = [way + (need[1],) for way in ways for _, need in self.needs(way[-1])]
            told += ways
        return told
