"""Versions, and the ranges that stretches of them make."""

from lockwright.errors import BadText
from lockwright.shapes import is_number, is_tuple_of

NUMBER_MOST = 1000000
NUMBER_DIGITS = 7
LEAST = (0, 0, 0)
EVERY = (((0, 0, 0), None),)
SIGNS = ("<=", ">=", "<", ">", "!", "^", "~")


def is_version(thing):
    """Whether a thing is a triple of numbers, each at most 1000000."""
    if not is_tuple_of(3, thing):
        return False
    for number in thing:
        if not is_number(number) or number > NUMBER_MOST:
            return False
    return True


def is_stretch(thing):
    """Whether a thing is a pair (low, high) as it stands in a range."""
    if not is_tuple_of(2, thing):
        return False
    low, high = thing
    if not is_version(low):
        return False
    return high is None or (is_version(high) and low < high)


def is_range(thing):
    """Whether a thing is a tuple of stretches, each of which ends below the next."""
    if not isinstance(thing, tuple):
        return False
    for at, pair in enumerate(thing):
        if not is_stretch(pair):
            return False
        if at > 0 and reaches(thing[at - 1][1], pair[0]):
            return False
    return True


def reaches(high, low):
    """Whether a stretch that ends at high leaves no gap ahead of low."""
    return high is None or low <= high


def later_end(one, other):
    """The later of two ends of stretches."""
    if one is None or other is None:
        return None
    return max(one, other)


def stretched(pairs):
    """The range of all versions that one of some stretches has, in whatever order they come."""
    found = []
    for low, high in sorted(pairs, key=lambda pair: pair[0]):
        if found and reaches(found[-1][1], low):
            begin, end = found[-1]
            found[-1] = (begin, later_end(end, high))
        else:
            found.append((low, high))
    return tuple(found)


def has(rng, version):
    """Whether a range has a version."""
    for low, high in rng:
        if low <= version and (high is None or version < high):
            return True
    return False


def outside(rng):
    """The range of all versions that a range has not."""
    found = []
    begin = LEAST
    for low, high in rng:
        if begin < low:
            found.append((begin, low))
        begin = high
    if begin is not None:
        found.append((begin, None))
    return tuple(found)


def either(one, other):
    """The range of all versions that one of two ranges has."""
    return stretched(one + other)


def both(one, other):
    """The range of all versions that both of two ranges have."""
    return outside(either(outside(one), outside(other)))


def is_part(one, other):
    """Whether other is a range that has every version of one."""
    return is_range(other) and both(one, other) == one


def least_of(rng):
    """The least version of a range, None if it has none."""
    if not rng:
        return None
    return rng[0][0]


def version_behind(version):
    """The version behind one, as it is written: no version if its last number is the greatest."""
    major, minor, patch = version
    return (major, minor, patch + 1)


def version_text(version):
    """A version as A.B.C."""
    major, minor, patch = version
    return f"{major}.{minor}.{patch}"


def stretch_text(low, high):
    """A stretch as parts of an alternative."""
    if high is None:
        return f">={version_text(low)}"
    if high == version_behind(low):
        return version_text(low)
    return f">={version_text(low)}, <{version_text(high)}"


def range_text(rng):
    """A range as a text that read_range reads."""
    if rng == EVERY:
        return "*"
    if not rng:
        return "<0.0.0"
    return " | ".join([stretch_text(low, high) for low, high in rng])


def told_number(digits, text):
    """The number that a text of at most so many digits, without needless noughts, tells, None if it is none."""
    # Longer texts are not even read: Python refuses to read very long ones.
    if len(text) > digits or not text.isascii() or not text.isdigit():
        return None
    if text != "0" and text.startswith("0"):
        return None
    return int(text)


def told_version(text):
    """The version that a text A.B.C tells, None if it tells none."""
    numbers = tuple([told_number(NUMBER_DIGITS, word) for word in text.split(".")])
    if not is_version(numbers):
        return None
    return numbers


def caret_end(version):
    """The end of ^A.B.C."""
    major, minor, patch = version
    if major > 0:
        return (major + 1, 0, 0)
    if minor > 0:
        return (0, minor + 1, 0)
    return (0, 0, patch + 1)


def range_of_sign(sign, version):
    """The range of a sign and a version: no range if it would need a number that is too great."""
    behind = version_behind(version)
    if sign == "<":
        return outside(((version, None),))
    if sign == "<=":
        return ((LEAST, behind),)
    if sign == ">":
        return ((behind, None),)
    if sign == ">=":
        return ((version, None),)
    if sign == "!":
        return outside(((version, behind),))
    if sign == "^":
        return ((version, caret_end(version)),)
    if sign == "~":
        return ((version, (version[0], version[1] + 1, 0)),)
    return ((version, behind),)


def sign_of(part):
    """The sign that a part begins with, the empty string if there is none."""
    for sign in SIGNS:
        if part.startswith(sign):
            return sign
    return ""


def told_part(part):
    """The range that a part of an alternative tells, None if it has none of the forms."""
    if part == "*":
        return EVERY
    sign = sign_of(part)
    version = told_version(part[len(sign):])
    if version is None:
        return None
    rng = range_of_sign(sign, version)
    if not is_range(rng):
        return None
    return rng


def read_range(text):
    """The range that a text tells: BadText."""
    if not isinstance(text, str):
        raise BadText(-1)
    found = []
    many = 0
    for alternative in text.split(" | "):
        missing = []
        for part in alternative.split(", "):
            rng = told_part(part)
            if rng is None:
                raise BadText(many)
            missing.extend(outside(rng))
            many += 1
        # A version is in all parts unless it is outside of one.
        found.extend(outside(stretched(missing)))
    return stretched(found)
