"""What the lines of several kinds of texts share, told and read."""

from lockwright.errors import BadLine, BadText
from lockwright.ranges import range_text, read_range, told_version, version_text
from lockwright.shapes import is_name, is_wanted


def lines_of(text):
    """The pair of the lines of a text that end with a line feed, and of what stands behind the last: BadLine."""
    if not isinstance(text, str):
        raise BadLine(0)
    lines = text.split("\n")
    rest = lines.pop()
    return (lines, rest)


def text_of(lines):
    """The text of some lines, each with its line feed."""
    return "".join([f"{line}\n" for line in lines])


def place_text(name, version):
    """NAME A.B.C"""
    return f"{name} {version_text(version)}"


def told_place(text):
    """The pair (name, version) of a text NAME A.B.C, None if it is none."""
    name, _, behind = text.partition(" ")
    version = told_version(behind)
    if not is_name(name) or version is None:
        return None
    return (name, version)


def target_text(name, rng, wanted):
    """NAME (RANGE), with the features that are wanted, if any are."""
    text = f"{name} ({range_text(rng)})"
    if not wanted:
        return text
    return " ".join([text, "with", *wanted])


def told_range(text):
    """The range of a text, None if it is none."""
    try:
        return read_range(text)
    except BadText:
        return None


def told_wanted(text):
    """The lot of wanted features that stand behind a range, None if they are none."""
    if text == "":
        return ()
    if not text.startswith(" with "):
        return None
    names = tuple(text.removeprefix(" with ").split(" "))
    if not is_wanted(names):
        return None
    return names


def told_target(text):
    """The triple (name, rng, wanted) of a text as target_text tells it, None if it is none."""
    name, _, behind = text.partition(" (")
    between, close, tail = behind.partition(")")
    rng = told_range(between)
    wanted = told_wanted(tail)
    if not is_name(name) or close == "" or rng is None or wanted is None:
        return None
    return (name, rng, wanted)
