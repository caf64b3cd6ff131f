"""What a book and a question have, gathered by package."""

from lockwright.ahead import choices
from lockwright.books import offered
from lockwright.ranges import has


def named(book, question):
    """The packages of the wishes, in their order, then all others that the book has or needs name, ascending."""
    others = [entry.name for entry in book.entries]
    for entry in book.entries:
        others.extend([need[1] for need in entry.needs])
    found = {wish[0]: True for wish in question.wishes}
    for name in sorted(set(others)):
        found[name] = True
    return tuple(found)


def known_features(book, question, names):
    """The dict from each name to the lot of features that a version offers, or that a need or wish wants."""
    found = {name: [] for name in names}
    for name, _, wanted in question.wishes:
        found[name].extend(wanted)
    for entry in book.entries:
        found[entry.name].extend(offered(entry))
        for _, other, _, wanted in entry.needs:
            found[other].extend(wanted)
    return {name: tuple(sorted(set(features))) for name, features in found.items()}


class Facts:
    """The packages of a book and a question, with the entries, versions and features of each."""

    def __init__(self, book, question):
        self.wishes = question.wishes
        self.names = named(book, question)
        self.features = known_features(book, question, self.names)
        self.chosen = {name: choices(book, question, name)[1:] for name in self.names}
        self.entries = {name: [] for name in self.names}
        for entry in book.entries:
            self.entries[entry.name].append(entry)

    def versions(self, name):
        """The versions of a package, ascending."""
        return [entry.version for entry in self.entries[name]]

    def within(self, name, rng):
        """The versions of a package that a range has, ascending; none of a package that is not known."""
        if name not in self.entries:
            return []
        return [version for version in self.versions(name) if has(rng, version)]
