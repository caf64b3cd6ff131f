"""The order in which right installations stand."""

from lockwright.books import packages, versions
from lockwright.errors import NotRight
from lockwright.installations import is_right


def choices(book, question, name):
    """The choices of a package: not there, the locked version if the book has it, the others newest first."""
    locks = dict(question.locks)
    locked = locks.get(name, None)
    found = versions(book, name)
    first = [version for version in found if version == locked]
    others = [version for version in found if version != locked]
    return (None, *first, *others)


def priority(book, question):
    """The packages in the order in which their choices count."""
    found = {name: True for name, _, _ in question.wishes}
    for name in packages(book):
        found[name] = True
    return tuple(found)


def is_ahead(book, question, one, other):
    """Whether a right installation is ahead of another right one: NotRight for each."""
    for installation in (one, other):
        if not is_right(book, question, installation):
            raise NotRight()
    mine = {name: version for name, version, _ in one}
    theirs = {name: version for name, version, _ in other}
    for name in priority(book, question):
        left = mine.get(name, None)
        right = theirs.get(name, None)
        if left != right:
            numbers = choices(book, question, name)
            return numbers.index(left) < numbers.index(right)
    return False
