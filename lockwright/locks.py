"""Lock texts: installations, each with a check."""

from lockwright.errors import BadLine
from lockwright.installations import is_triple
from lockwright.lines import lines_of, place_text, text_of
from lockwright.ranges import told_version

CHECK_MODULUS = 99991


def check_line(text):
    """The line that tells the check of what stands ahead of it."""
    total = sum([ord(sign) * (at + 1) for at, sign in enumerate(text)])
    return f"check {total % CHECK_MODULUS}"


def triple_line(triple):
    """The line of a triple of an installation."""
    name, version, features = triple
    return " ".join([place_text(name, version), *features])


def lock_text(installation):
    """An installation as a text that read_lock reads."""
    text = text_of([triple_line(triple) for triple in installation])
    return text + text_of([check_line(text)])


def told_triple(line):
    """The triple of a line, None if it is none."""
    name, _, behind = line.partition(" ")
    words = behind.split(" ")
    triple = (name, told_version(words[0]), tuple(words[1:]))
    if not is_triple(triple):
        return None
    return triple


def read_lock(text):
    """The installation of a lock text: BadLine."""
    lines, rest = lines_of(text)
    found = []
    # A package may be called check: its line is that of a triple, which no check is.
    for line in lines:
        triple = told_triple(line)
        if triple is None or (found and triple[0] <= found[-1][0]):
            break
        found.append(triple)
    many = len(found)
    if many == len(lines) or lines[many] != check_line(text_of(lines[:many])):
        raise BadLine(many + 1)
    if many + 1 < len(lines) or rest != "":
        raise BadLine(many + 2)
    return tuple(found)


def locks_of(installation):
    """The pairs (name, version) of an installation."""
    return tuple([(name, version) for name, version, _ in installation])
