"""What a book and a question say: atoms in their order, axioms with their sources, and stands."""

from lockwright.atoms import SOURCE_MOST, kinds_of
from lockwright.clauses import clause_of, first_unmet, so_in
from lockwright.errors import NoSource, NoStand, NotClosed, NotFitting
from lockwright.facts import Facts
from lockwright.installations import core, open_fault
from lockwright.shapes import is_flags, is_number


def at_one(name, versions):
    """The literals of a package being at one of some versions."""
    return [(True, ("at", name, version)) for version in versions]


def some_axioms(facts, name):
    """A package is not in, or at one of its versions."""
    return [(("some", name), clause_of([(False, ("in", name)), *at_one(name, facts.versions(name))]))]


def one_axioms(facts, name):
    """A package is not at two versions."""
    versions = facts.versions(name)
    axioms = []
    for many, later in enumerate(versions):
        for version in versions[:many]:
            clause = clause_of([(False, ("at", name, version)), (False, ("at", name, later))])
            axioms.append((("one", name, version, later), clause))
    return axioms


def inner_axioms(facts, name):
    """What is at a version is in."""
    axioms = []
    for version in facts.versions(name):
        clause = clause_of([(False, ("at", name, version)), (True, ("in", name))])
        axioms.append((("inner", name, version), clause))
    return axioms


def home_axioms(facts, name):
    """What has a feature on is in."""
    axioms = []
    for feature in facts.features[name]:
        clause = clause_of([(False, ("on", name, feature)), (True, ("in", name))])
        axioms.append((("home", name, feature), clause))
    return axioms


def lacks_axioms(facts, name):
    """No feature is on that the version does not offer."""
    axioms = []
    for entry in facts.entries[name]:
        offers = dict(entry.features)
        for feature in facts.features[name]:
            if feature not in offers:
                clause = clause_of([(False, ("at", name, entry.version)), (False, ("on", name, feature))])
                axioms.append((("lacks", name, entry.version, feature), clause))
    return axioms


def turns_axioms(facts, name):
    """What a feature turns on is on."""
    axioms = []
    for entry in facts.entries[name]:
        for feature, turns in entry.features:
            for other in turns:
                clause = clause_of([
                    (False, ("at", name, entry.version)), (False, ("on", name, feature)), (True, ("on", name, other)),
                ])
                axioms.append((("turns", name, entry.version, feature, other), clause))
    return axioms


def unless(entry, feature):
    """The literals by which a need of an entry does not count."""
    literals = [(False, ("at", entry.name, entry.version))]
    if feature != "":
        literals.append((False, ("on", entry.name, feature)))
    return literals


def need_axioms(facts, name):
    """What is needed is there in a version that will do."""
    axioms = []
    for entry in facts.entries[name]:
        for at, (feature, other, rng, _) in enumerate(entry.needs):
            clause = clause_of([*unless(entry, feature), *at_one(other, facts.within(other, rng))])
            axioms.append((("need", name, entry.version, at), clause))
    return axioms


def need_on_axioms(facts, name):
    """What is needed has the features on that are wanted."""
    axioms = []
    for entry in facts.entries[name]:
        for at, (feature, other, _, wanted) in enumerate(entry.needs):
            for each in wanted:
                clause = clause_of([*unless(entry, feature), (True, ("on", other, each))])
                axioms.append((("need_on", name, entry.version, at, each), clause))
    return axioms


def bar_axioms(facts, name):
    """What is barred is not there."""
    axioms = []
    for entry in facts.entries[name]:
        for at, (other, rng) in enumerate(entry.bars):
            for barred in facts.within(other, rng):
                clause = clause_of([(False, ("at", name, entry.version)), (False, ("at", other, barred))])
                axioms.append((("bar", name, entry.version, at, barred), clause))
    return axioms


def wish_axioms(facts, at):
    """What is wished for is there in a version that will do."""
    name, rng, _ = facts.wishes[at]
    return [(("wish", at), clause_of(at_one(name, facts.within(name, rng))))]


def wish_on_axioms(facts, at):
    """What is wished for has the features on that are wanted."""
    name, _, wanted = facts.wishes[at]
    return [(("wish_on", at, feature), ((True, ("on", name, feature)),)) for feature in wanted]


OF_PACKAGES = {
    "some": some_axioms, "one": one_axioms, "inner": inner_axioms, "home": home_axioms, "lacks": lacks_axioms,
    "turns": turns_axioms, "need": need_axioms, "need_on": need_on_axioms, "bar": bar_axioms,
}
OF_WISHES = {"wish": wish_axioms, "wish_on": wish_on_axioms}


def order_of(book, question):
    """All atoms in their order, each with the flag that is preferred."""
    facts = Facts(book, question)
    order = []
    for name in facts.names:
        order.append((("in", name), False))
        order.extend([(("at", name, version), True) for version in facts.chosen[name]])
    for name in facts.names:
        order.extend([(("on", name, feature), False) for feature in facts.features[name]])
    return tuple(order)


def axioms_of(book, question):
    """All pairs of a source and its clause, ascending by sources."""
    facts = Facts(book, question)
    axioms = []
    for told in OF_PACKAGES.values():
        for name in facts.names:
            axioms.extend(told(facts, name))
    for told in OF_WISHES.values():
        for at in range(len(facts.wishes)):
            axioms.extend(told(facts, at))
    return tuple(sorted(axioms, key=lambda pair: pair[0]))


def axioms_near(facts, source):
    """The axioms of the kind and the package or wish that a tuple of the form of a source begins with."""
    if len(source) < 2:
        return []
    kind, place = source[0], source[1]
    if kind in OF_PACKAGES and place in facts.entries:
        told = OF_PACKAGES[kind]
        return told(facts, place)
    if kind in OF_WISHES and is_number(place) and place < len(facts.wishes):
        told = OF_WISHES[kind]
        return told(facts, place)
    return []


def axiom_of(book, question, source):
    """The clause of a source: NoSource."""
    if kinds_of(SOURCE_MOST, source) is None:
        raise NoSource()
    for other, clause in axioms_near(Facts(book, question), source):
        if other == source:
            return clause
    raise NoSource()


def stand_of(book, question, installation):
    """Whether each atom of the order is so in an installation that satisfies (a) to (d): NotClosed."""
    if open_fault(book, question, installation) is not None:
        raise NotClosed()
    there = {}
    for name, version, features in installation:
        there[("in", name)] = True
        there[("at", name, version)] = True
        for feature in features:
            there[("on", name, feature)] = True
    return tuple([atom in there for atom, _ in order_of(book, question)])


def installed(order, stand):
    """The installation of a stand in which all axioms are so."""
    so = so_in(order, stand)
    found = []
    for atom in sorted(so):
        if atom[0] == "at" and so[atom]:
            _, name, version = atom
            features = [each[2] for each in so if each[0] == "on" and each[1] == name and so[each]]
            found.append((name, version, tuple(features)))
    return tuple(found)


def meant_by(book, question, stand):
    """The core of the installation of a stand in which all axioms are so: NoStand, NotFitting."""
    order = order_of(book, question)
    if not is_flags(len(order), stand):
        raise NoStand()
    source = first_unmet(axioms_of(book, question), so_in(order, stand))
    if source is not None:
        raise NotFitting(source)
    return core(book, question, installed(order, stand))
