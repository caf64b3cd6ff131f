"""Things that the tests of several modules use."""

import random

from lockwright.books import Book, Entry
from lockwright.errors import LockError

EVERY = (((0, 0, 0), None),)


def nested(deep):
    """A tuple of tuples, so many deep."""
    thing = ()
    for _ in range(deep):
        thing = (thing,)
    return thing


def branching(deep):
    """A tuple that leads to few objects on very many ways, so that no one may walk all of them."""
    thing = ()
    for _ in range(deep):
        thing = (thing, thing)
    return thing


def steps():
    yield 1


def odd_things():
    """Things of many kinds, none of which is a version, a name, a tuple of anything, or a string of use."""
    return [
        None, True, False, 0, 1, -1, 10 ** 12 - 1, b"", b"app", bytearray(b"a"), memoryview(b"a"),
        [], [1, 2, 3], ["a"], [nested(38)], {}, {"a": 1}, {(1, 0, 0): ()}, range(3), slice(1, 2, 3),
        len, int, odd_things, steps(), iter([1]), Ellipsis, NotImplemented, object(),
        ValueError("x"), LockError(), small_entry(), Book(()), "A", "abc def", "aaaaaaaaaaaaa", "a1", "\n",
    ]


def odd_tuples():
    """Tuples that are no version, no range, no lot of names but (), no entry's part, and no installation."""
    return [
        (None,), (True, True, True), (1, 2), (1, 2, 3, 4), (0, 0, -1), nested(39), branching(39),
        ((),), ([],), ({},), (branching(38), ()), ("b", "a"), ("a", "a"), ("",), ("A",), (b"a",),
        (("a",),), (("a", "b"), ("c", "d")), (small_entry(), small_entry()), tuple([0] * 19000),
        (branching(37), (1, 0, 0), ()), ("a", branching(37), ()), ("a", (1, 0, 0), branching(37)),
    ]


def entry(name, version, features=(), needs=(), bars=()):
    return Entry(name, version, features, needs, bars)


def small_entry():
    return Entry("lib", (1, 2, 0), (), (), ())


def raised(kind, function, *arguments):
    """The error of just this kind that a call raises, or None."""
    try:
        function(*arguments)
    except LockError as error:
        if type(error) is kind:
            return error
    return None


def some_version(chance, most=2):
    return tuple(chance.randint(0, most) for _ in range(3))


def some_range(chance, most=2):
    """A range over few versions, with ends at any of them."""
    ends = sorted(set(some_version(chance, most) for _ in range(chance.randint(0, 6))))
    if len(ends) % 2 == 1:
        ends.append(None)
    return tuple((ends[k], ends[k + 1]) for k in range(0, len(ends), 2))


def chance(seed):
    return random.Random(seed)
