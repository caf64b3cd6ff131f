"""Books as texts, and back."""

from lockwright.books import BARS_MOST, ENTRIES_MOST, FEATURES_MOST, NEEDS_MOST
from lockwright.books import Book, Entry, is_bar, is_feature, is_need, is_release, lacking
from lockwright.errors import BadLine
from lockwright.lines import lines_of, place_text, target_text, text_of, told_place, told_target
from lockwright.shapes import is_name


def feature_line(feature, turns):
    """The line of a feature."""
    line = f"  feature {feature}"
    if not turns:
        return line
    return " ".join([line, "turns", *turns])


def need_line(feature, other, rng, wanted):
    """The line of a need."""
    needs = f"needs {target_text(other, rng, wanted)}"
    if feature == "":
        return f"  {needs}"
    return f"  if {feature} {needs}"


def entry_lines(entry):
    """The lines of an entry, without their line feeds."""
    lines = [f"package {place_text(entry.name, entry.version)}"]
    for feature, turns in entry.features:
        lines.append(feature_line(feature, turns))
    for feature, other, rng, wanted in entry.needs:
        lines.append(need_line(feature, other, rng, wanted))
    for other, rng in entry.bars:
        lines.append(f"  bars {target_text(other, rng, ())}")
    return lines


def book_text(book):
    """A book as a text that read_book reads."""
    lines = []
    for entry in book.entries:
        lines.extend(entry_lines(entry))
    return text_of(lines)


def told_feature(text):
    """The pair (feature, turns) of what stands behind feature in a line, None if it is none."""
    feature, turns, behind = text.partition(" turns ")
    pair = (feature, ())
    if turns != "":
        pair = (feature, tuple(behind.split(" ")))
    if not is_feature(pair):
        return None
    return pair


def told_need(line):
    """The quadruple of the line of a need, None if it is none."""
    if line.startswith("  needs "):
        feature = ""
        target = told_target(line.removeprefix("  needs "))
    elif line.startswith("  if "):
        feature, _, behind = line.removeprefix("  if ").partition(" needs ")
        target = told_target(behind)
        if not is_name(feature):
            return None
    else:
        return None
    if target is None:
        return None
    return (feature, *target)


def told_bar(text):
    """The pair (other, rng) of what stands behind bars in a line, None if it is none."""
    target = told_target(text)
    if target is None or target[2]:
        return None
    return (target[0], target[1])


class BookReader:
    """What was read of a book so far, line by line."""

    def __init__(self):
        self.entries = []
        self.place = None
        self.features = []
        self.needs = []
        self.bars = []

    def take(self, line):
        """Reads one more line, and tells whether it may stand here."""
        if line.startswith("package "):
            return self.take_package(told_place(line.removeprefix("package ")))
        if self.place is None:
            return False
        if line.startswith("  feature "):
            return self.take_feature(told_feature(line.removeprefix("  feature ")))
        if line.startswith("  bars "):
            return self.take_bar(told_bar(line.removeprefix("  bars ")))
        return self.take_need(told_need(line))

    def take_package(self, place):
        """Ends the entry ahead, and begins the one of this pair (name, version)."""
        if place is None or not is_release(place[1]):
            return False
        if self.place is not None and place <= self.place:
            return False
        if not self.finish() or len(self.entries) == ENTRIES_MOST:
            return False
        self.place = place
        self.features = []
        self.needs = []
        self.bars = []
        return True

    def take_feature(self, pair):
        """Adds a feature, behind features alone; what it turns on may come later."""
        if pair is None or self.needs or self.bars or len(self.features) == FEATURES_MOST:
            return False
        if self.features and pair[0] <= self.features[-1][0]:
            return False
        self.features.append(pair)
        return True

    def take_need(self, need):
        """Adds a need, ahead of all bars."""
        if self.bars or len(self.needs) == NEEDS_MOST or not is_need(self.place[0], self.features, need):
            return False
        self.needs.append(need)
        return True

    def take_bar(self, bar):
        """Adds a bar."""
        if len(self.bars) == BARS_MOST or not is_bar(self.place[0], bar):
            return False
        self.bars.append(bar)
        return True

    def finish(self):
        """Ends the entry that is being read, if there is one, and tells whether it lacks no feature."""
        if self.place is None:
            return True
        if lacking(self.features):
            return False
        name, version = self.place
        self.entries.append(Entry(name, version, tuple(self.features), tuple(self.needs), tuple(self.bars)))
        return True


def read_book(text):
    """The book of a text: BadLine."""
    lines, rest = lines_of(text)
    reader = BookReader()
    for at, line in enumerate(lines):
        if not reader.take(line):
            raise BadLine(at + 1)
    if rest != "" or not reader.finish():
        raise BadLine(len(lines) + 1)
    return Book(tuple(reader.entries))
