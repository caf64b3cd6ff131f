"""Questions that were edited apart, merged."""

from lockwright.errors import TooMany
from lockwright.questions import LOCKS_MOST, WISHES_MOST, Question


def by_name(rows):
    """The dict from each name to the tuple of the wishes, or locks, that have it."""
    found = {}
    for row in rows:
        found[row[0]] = (*found.get(row[0], ()), row)
    return found


def settled(base, mine, theirs):
    """What three sides say of one package comes to, None if it clashes."""
    if mine == base:
        return theirs
    if theirs == base or mine == theirs:
        return mine
    return None


def merged_rows(base, mine, theirs):
    """The dict from each name in three tuples of wishes, or locks, to those that are left, None for a clash."""
    sides = [by_name(rows) for rows in (base, mine, theirs)]
    found = {}
    for side in sides:
        for name in side:
            if name not in found:
                found[name] = settled(sides[0].get(name, ()), sides[1].get(name, ()), sides[2].get(name, ()))
    return found


def clash_of(kind, found):
    """The clash with the least name, None if there is none."""
    names = [name for name in found if found[name] is None]
    if not names:
        return None
    return ("clash", kind, min(names))


def rows_within(most, found):
    """All rows of a dict in their order: TooMany."""
    rows = [row for lot in list(found.values()) for row in lot]
    if len(rows) > most:
        raise TooMany(most)
    return rows


def merged(base, mine, theirs):
    """The question that two edits of a base come to, or the first clash: TooMany."""
    wishes = merged_rows(base.wishes, mine.wishes, theirs.wishes)
    locks = merged_rows(base.locks, mine.locks, theirs.locks)
    clash = clash_of("wish", wishes)
    if clash is None:
        clash = clash_of("lock", locks)
    if clash is not None:
        return clash
    left = rows_within(WISHES_MOST, wishes)
    return ("merged", Question(tuple(left), tuple(sorted(rows_within(LOCKS_MOST, locks)))))
