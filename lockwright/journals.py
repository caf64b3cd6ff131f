"""Journals of houses, read back as far as they stand there whole."""

from lockwright.booktexts import read_book
from lockwright.errors import BadLine, NoEntry, NoText, TooMany
from lockwright.houses import House
from lockwright.lines import lines_of, text_of, told_place


def told_entry(lines):
    """The entry that some lines tell, None if they tell none, or more than one."""
    try:
        entries = read_book(text_of(lines)).entries
    except BadLine:
        return None
    if len(entries) != 1:
        return None
    return entries[0]


def put_from(house, lines):
    """Puts the entry of some lines, and tells whether that was done."""
    entry = told_entry(lines)
    if entry is None:
        return False
    try:
        house.put(entry)
    except TooMany:
        return False
    return True


def strike_from(house, text):
    """Strikes the entry of a text NAME A.B.C, and tells whether that was done."""
    place = told_place(text)
    if place is None:
        return False
    try:
        house.strike(place[0], place[1])
    except NoEntry:
        return False
    return True


def edit_from(house, lines):
    """Does the edit of some lines, and tells whether that was done."""
    if lines and lines[0] == "put":
        return put_from(house, lines[1:])
    return len(lines) == 1 and lines[0].startswith("strike ") and strike_from(house, lines[0].removeprefix("strike "))


def recovered(book, text):
    """The pair of the house of the edits that stand whole at the beginning of a journal, and of their signs: NoText."""
    if not isinstance(text, str):
        raise NoText()
    house = House(book)
    many = 0
    edit = []
    # What stands behind the last line feed is no whole line.
    for line in lines_of(text)[0]:
        if line != "done":
            edit.append(line)
        elif edit_from(house, edit):
            many += len(text_of([*edit, "done"]))
            edit = []
        else:
            break
    return (house, many)
