"""Installations: whether they are right, what is wrong with them, and why a package is there."""

from lockwright.books import entry_of, found_entry, offered, turned
from lockwright.errors import NotClosed, NotRight, NotThere
from lockwright.ranges import has, is_version
from lockwright.shapes import is_name, is_names, is_tuple_of


def is_triple(thing):
    """Whether a thing is a triple (name, version, features) as it stands in an installation."""
    return is_tuple_of(3, thing) and is_name(thing[0]) and is_version(thing[1]) and is_names(thing[2])


def is_installation(thing):
    """Whether a thing is a tuple of triples, ascending by unlike names."""
    if not isinstance(thing, tuple):
        return False
    for triple in thing:
        if not is_triple(triple):
            return False
    return is_names(tuple([triple[0] for triple in thing]))


def triples_by_name(installation):
    """The dict from each name of an installation to its triple."""
    return {triple[0]: triple for triple in installation}


def are_in(features, others):
    """Whether all these features are among others."""
    for feature in features:
        if feature not in others:
            return False
    return True


def is_on(feature, features):
    """Whether what hangs on a feature of a need counts while these features are on."""
    return feature == "" or feature in features


def is_met(there, name, rng, wanted):
    """Whether a package is there in a version of a range, with the features wanted."""
    if name not in there:
        return False
    _, version, features = there[name]
    return has(rng, version) and are_in(wanted, features)


def is_full(entry, features):
    """Whether these are features of an entry, with all that they turn on."""
    return are_in(features, offered(entry)) and turned(entry, features) == features


def entry_fault(book, installation):
    """The first fault of an installation by (a)."""
    for name, version, _ in installation:
        if found_entry(book, name, version) is None:
            return ("entry", name)
    for name, version, features in installation:
        if not is_full(entry_of(book, name, version), features):
            return ("feature", name)
    return None


def wish_fault(question, installation):
    """The first fault of an installation by (b)."""
    there = triples_by_name(installation)
    for at, (name, rng, wanted) in enumerate(question.wishes):
        if not is_met(there, name, rng, wanted):
            return ("wish", at)
    return None


def need_fault(book, installation):
    """The first fault by (c) of an installation all versions of which have entries."""
    there = triples_by_name(installation)
    for name, version, features in installation:
        for at, (feature, other, rng, wanted) in enumerate(entry_of(book, name, version).needs):
            if is_on(feature, features) and not is_met(there, other, rng, wanted):
                return ("need", name, at)
    return None


def bar_fault(book, installation):
    """The first fault by (d) of an installation all versions of which have entries."""
    there = triples_by_name(installation)
    for name, version, _ in installation:
        for at, (other, rng) in enumerate(entry_of(book, name, version).bars):
            if is_met(there, other, rng, ()):
                return ("bar", name, at)
    return None


def open_fault(book, question, thing):
    """The first fault of a thing as an installation that satisfies (a) to (d), None if it does."""
    if not is_installation(thing):
        return ("form",)
    wrong = entry_fault(book, thing)
    if wrong is None:
        wrong = wish_fault(question, thing)
    if wrong is None:
        wrong = need_fault(book, thing)
    if wrong is None:
        wrong = bar_fault(book, thing)
    return wrong


def come_to(book, question, installation):
    """The dict from each package that is come to by (e) to the lot of its features that are, (a) to (d) being so."""
    there = triples_by_name(installation)
    found = {}
    waiting = [(name, wanted) for name, _, wanted in question.wishes]
    while waiting:
        name, wanted = waiting.pop()
        entry = entry_of(book, name, there[name][1])
        features = turned(entry, tuple(sorted(set(found.get(name, ()) + wanted))))
        if name in found and found[name] == features:
            continue
        found[name] = features
        for feature, other, _, others in entry.needs:
            if is_on(feature, features):
                waiting.append((other, others))
    return found


def unwanted_fault(book, question, installation):
    """The first fault by (e) of an installation that satisfies (a) to (d)."""
    found = come_to(book, question, installation)
    for name, _, _ in installation:
        if name not in found:
            return ("unwanted", name)
    for name, _, features in installation:
        if found[name] != features:
            return ("unwanted", name)
    return None


def fault(book, question, thing):
    """The first fault of a thing as a right installation, None if it is one."""
    wrong = open_fault(book, question, thing)
    if wrong is None:
        wrong = unwanted_fault(book, question, thing)
    return wrong


def is_right(book, question, thing):
    """Whether a thing is a right installation."""
    return fault(book, question, thing) is None


def core(book, question, installation):
    """What is come to of an installation that satisfies (a) to (d): NotClosed."""
    if open_fault(book, question, installation) is not None:
        raise NotClosed()
    found = come_to(book, question, installation)
    return tuple([(name, version, found[name]) for name, version, _ in installation if name in found])


def needed_by(book, triple):
    """The names that the needs of an installed package that count have."""
    name, version, features = triple
    needs = entry_of(book, name, version).needs
    return [need[1] for need in needs if is_on(need[0], features)]


def way_to(book, question, installation, name):
    """The least of the shortest ways from a wish to a package: NotRight, NotThere."""
    if not is_right(book, question, installation):
        raise NotRight()
    there = triples_by_name(installation)
    if not is_name(name) or name not in there:
        raise NotThere()
    found = {}
    ways = [(at, wish[0]) for at, wish in enumerate(question.wishes)]
    while name not in found:
        longer = []
        # The ways of one length come ascending, so the first to reach a package is the least.
        for way in sorted(ways):
            if way[-1] not in found:
                found[way[-1]] = way
                longer.extend([(*way, other) for other in needed_by(book, there[way[-1]])])
        ways = longer
    return found[name]
