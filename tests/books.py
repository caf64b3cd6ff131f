"""Larger books, made by a pattern, and the questions that go with them."""

from lockwright.books import Book, Entry
from lockwright.questions import Question
from samples import EVERY


def just(version):
    """The range of one version."""
    major, minor, patch = version
    return ((version, (major, minor, patch + 1)),)


def book_of(entries):
    return Book(tuple(sorted(entries, key=lambda one: (one.name, one.version))))


def numbered(k):
    return "p" + chr(97 + k // 26) + chr(97 + k % 26)


def chain_book(many, majors=(1, 2), features=("f", "g"), turned=False, broken=False):
    """A chain of packages, each of which needs the next one, and with a feature on the next one's; perhaps turned round."""
    names = [numbered(many - 1 - k if turned else k) for k in range(many)]
    entries = []
    for at, name in enumerate(names):
        for major in majors:
            needs = ()
            if at + 1 < many:
                needs = (("", names[at + 1], EVERY, ()),) + tuple((each, names[at + 1], EVERY, (each,)) for each in features)
            elif broken:
                needs = (("", "gone", EVERY, ()),)
            entries.append(Entry(name, (major, 0, 0), tuple((each, ()) for each in features), needs, ()))
    return book_of(entries), Question(((names[0], EVERY, features),), ())


def wide_book(many, good):
    """A package of many versions; those behind the first few good ones need what there is not."""
    bad = (("", "lib", (((9, 0, 0), None),), ()),)
    entries = [Entry("app", (1, 0, k), (), (("", "lib", EVERY, ()),) if k < good else bad, ()) for k in range(many)]
    entries += [Entry("lib", (2, 0, k), (), (), ()) for k in range(3)]
    return book_of(entries), Question((("app", EVERY, ()),), ())


def unlike_book(many, versions):
    """So many packages of so many versions each, no two of which may have the same version."""
    names = "abcdefgh"[:many]
    entries = []
    for at, name in enumerate(names):
        for major in range(1, versions + 1):
            others = [names[(at + by) % many] for by in range(1, many // 2 + 1) if 2 * by < many or at < many // 2]
            entries.append(Entry(name, (major, 0, 0), (), (), tuple((other, just((major, 0, 0))) for other in others)))
    return book_of(entries), Question(tuple((name, EVERY, ()) for name in names), ())
