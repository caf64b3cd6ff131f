"""Entries of packages, and books of them."""

from lockwright.errors import BadBook, BadEntry, NoEntry, NoFeatures, TooMany
from lockwright.ranges import is_range, is_version
from lockwright.shapes import is_name, is_names, is_tuple_of, is_tuple_within, is_wanted

RELEASE_MOST = 999999
FEATURES_MOST = 6
NEEDS_MOST = 8
BARS_MOST = 6
ENTRIES_MOST = 200


def is_release(thing):
    """Whether a thing is a version that an entry may have, one that has a version behind it."""
    return is_version(thing) and max(thing) <= RELEASE_MOST


def is_other(name, thing):
    """Whether a thing is the name of another package than this one."""
    return is_name(thing) and thing != name


def is_feature(thing):
    """Whether a thing is a pair of a name and the lot of names that it turns on."""
    return is_tuple_of(2, thing) and is_name(thing[0]) and is_names(thing[1]) and thing[0] not in thing[1]


def lacking(features):
    """Whether one of some features turns on what is none of them."""
    names = [pair[0] for pair in features]
    for pair in features:
        for other in pair[1]:
            if other not in names:
                return True
    return False


def is_features(thing):
    """Whether a thing is what an entry may have as its features."""
    if not is_tuple_within(FEATURES_MOST, thing):
        return False
    for pair in thing:
        if not is_feature(pair):
            return False
    return is_names(tuple([pair[0] for pair in thing])) and not lacking(thing)


def is_need(name, features, thing):
    """Whether a thing is a need that an entry of a package with these features may have."""
    if not is_tuple_of(4, thing):
        return False
    feature, other, rng, wanted = thing
    if feature != "" and feature not in [pair[0] for pair in features]:
        return False
    return is_other(name, other) and is_range(rng) and is_wanted(wanted)


def is_bar(name, thing):
    """Whether a thing is a bar that an entry of a package may have."""
    return is_tuple_of(2, thing) and is_other(name, thing[0]) and is_range(thing[1])


def wrong_need(name, features, needs):
    """The first part of needs that is none, None if all are."""
    if not is_tuple_within(NEEDS_MOST, needs):
        return "needs"
    for at, need in enumerate(needs):
        if not is_need(name, features, need):
            return ("need", at)
    return None


def wrong_bar(name, bars):
    """The first part of bars that is none, None if all are."""
    if not is_tuple_within(BARS_MOST, bars):
        return "bars"
    for at, bar in enumerate(bars):
        if not is_bar(name, bar):
            return ("bar", at)
    return None


def wrong_part(name, version, features, needs, bars):
    """The first part that is none of an entry, None if all are."""
    if not is_name(name):
        return "name"
    if not is_release(version):
        return "version"
    if not is_features(features):
        return "features"
    part = wrong_need(name, features, needs)
    if part is None:
        part = wrong_bar(name, bars)
    return part


class Entry:
    """A version of a package, with its features, what it needs and what it bars."""

    def __init__(self, name, version, features, needs, bars):
        part = wrong_part(name, version, features, needs, bars)
        if part is not None:
            raise BadEntry(part)
        self.name = name
        self.version = version
        self.features = features
        self.needs = needs
        self.bars = bars

    def __eq__(self, other):
        return (isinstance(other, Entry) and self.name == other.name and self.version == other.version
                and self.features == other.features and self.needs == other.needs and self.bars == other.bars)


def place_of(entry):
    """What entries are ordered by."""
    return (entry.name, entry.version)


def offered(entry):
    """The lot of the names of an entry's features."""
    return tuple([pair[0] for pair in entry.features])


def turned(entry, features):
    """The least lot that holds these features of an entry and all that they turn on: NoFeatures."""
    names = offered(entry)
    if not is_names(features):
        raise NoFeatures()
    for feature in features:
        if feature not in names:
            raise NoFeatures()
    turns = dict(entry.features)
    found = {}
    waiting = list(features)
    while waiting:
        feature = waiting.pop()
        if feature not in found:
            found[feature] = True
            waiting.extend(turns[feature])
    return tuple(sorted(found))


def wrong_entry(entries):
    """The index of the first that is no entry or not behind the one ahead, -1 for no tuple of so many, or None."""
    if not is_tuple_within(ENTRIES_MOST, entries):
        return -1
    for at, entry in enumerate(entries):
        if not isinstance(entry, Entry):
            return at
        if at > 0 and place_of(entry) <= place_of(entries[at - 1]):
            return at
    return None


class Book:
    """Entries, ascending by name and version."""

    def __init__(self, entries):
        index = wrong_entry(entries)
        if index is not None:
            raise BadBook(index)
        self.entries = entries
        # By name and version, so that long installations are soon looked through.
        self.places = {place_of(entry): entry for entry in entries}

    def __eq__(self, other):
        return isinstance(other, Book) and self.entries == other.entries


def packages(book):
    """The lot of the names of all entries of a book."""
    return tuple(sorted(set([entry.name for entry in book.entries])))


def versions(book, name):
    """The versions of a package in a book, newest first."""
    return tuple([entry.version for entry in reversed(book.entries) if entry.name == name])


def found_entry(book, name, version):
    """The entry of a name and a version in a book, None if there is none or if they are something else."""
    # True is as good as 1 where tuples are compared, but no number of a version.
    if not is_name(name) or not is_version(version):
        return None
    return book.places.get((name, version), None)


def entry_of(book, name, version):
    """The entry of a name and a version in a book: NoEntry."""
    entry = found_entry(book, name, version)
    if entry is None:
        raise NoEntry()
    return entry


def with_entry(book, one):
    """The book with an entry, in the place of one of the same name and version: TooMany."""
    place = place_of(one)
    before = [entry for entry in book.entries if place_of(entry) < place]
    behind = [entry for entry in book.entries if place_of(entry) > place]
    if len(before) + len(behind) == ENTRIES_MOST:
        raise TooMany(ENTRIES_MOST)
    return Book(tuple(before + [one] + behind))


def without(book, name, version):
    """The book without the entry of a name and a version: NoEntry."""
    struck = place_of(entry_of(book, name, version))
    return Book(tuple([entry for entry in book.entries if place_of(entry) != struck]))
