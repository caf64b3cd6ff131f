"""A shelf of cells on which installations are laid down, so that the power may be cut between any two writes."""

from lockwright.contents import texts_for
from lockwright.errors import BadLine, NoDeed, NoNumber
from lockwright.lines import place_text
from lockwright.locks import lock_text, locks_of, read_lock
from lockwright.ranges import told_number
from lockwright.shapes import is_number, is_tuple_of

SLOTS = ("slot 0", "slot 1")
PACK = "pack "
EDITION = "edition "
EDITION_DIGITS = 12


def is_write(thing):
    """Whether a thing is a deed that writes a text into a cell."""
    return is_tuple_of(3, thing) and thing[0] == "write" and isinstance(thing[1], str) and isinstance(thing[2], str)


def is_strike(thing):
    """Whether a thing is a deed that strikes a cell."""
    return is_tuple_of(2, thing) and thing[0] == "strike" and isinstance(thing[1], str)


def whole_text(body):
    """The whole text with a body."""
    return f"size {len(body)}\n{body}"


def body_of(text):
    """The body of a whole text, None if it is not whole."""
    _, _, body = text.partition("\n")
    if text != whole_text(body):
        return None
    return body


def told_slot(text):
    """The pair (K, installation) that the text of a good slot tells, None if it tells none."""
    body = body_of(text)
    if body is None:
        return None
    head, _, lock = body.partition("\n")
    number = told_number(EDITION_DIGITS, head.removeprefix(EDITION))
    if not head.startswith(EDITION) or number is None or number == 0:
        return None
    try:
        return (number, read_lock(lock))
    except BadLine:
        return None


def cell_of(name, version):
    """The cell in which a package lies."""
    return f"{PACK}{place_text(name, version)}"


def cells_of(installation):
    """The dict from the cells of an installation's packages to their pairs (name, version), by its order."""
    return {cell_of(name, version): (name, version) for name, version in locks_of(installation)}


class Shelf:
    """A disk, and what it means."""

    def __init__(self):
        self.disk = {}

    def cells(self):
        """The disk, as a new dict."""
        return dict(self.disk)

    def do(self, deed):
        """Does a deed: NoDeed."""
        if is_write(deed):
            self.disk[deed[1]] = deed[2]
        elif is_strike(deed):
            self.disk.pop(deed[1], None)
        else:
            raise NoDeed()

    def cut(self, deed, many):
        """Does a write of which only so many signs come: NoDeed, NoNumber."""
        if not is_write(deed):
            raise NoDeed()
        if not is_number(many) or many > len(deed[2]):
            raise NoNumber()
        self.disk[deed[1]] = deed[2][:many]

    def best(self):
        """The triple (K, slot, installation) of the slot that counts, with 0 and None for none."""
        found = (0, None, ())
        for slot in SLOTS:
            told = told_slot(self.disk.get(slot, ""))
            if told is not None and told[0] > found[0]:
                found = (told[0], slot, told[1])
        return found

    def meaning(self):
        """The installation that the disk means."""
        return self.best()[2]

    def edition(self):
        """The number of the slot that counts, 0 if none does."""
        return self.best()[0]

    def is_sound(self):
        """Whether each package of the meaning lies whole in its cell."""
        for cell in cells_of(self.meaning()):
            if body_of(self.disk.get(cell, "")) is None:
                return False
        return True

    def strikes(self, installation):
        """Strikes of the cells of all packages that an installation has not, ascending."""
        belonging = cells_of(installation)
        return [("strike", cell) for cell in sorted(self.disk) if cell.startswith(PACK) and cell not in belonging]

    def deeds_for(self, installation, contents):
        """The deeds that lay an installation down: NoContents."""
        texts = texts_for(installation, contents)
        number, slot, meant = self.best()
        staying = cells_of(meant)
        deeds = []
        for cell, pair in cells_of(installation).items():
            text = whole_text(texts[pair])
            if cell not in staying and self.disk.get(cell, None) != text:
                deeds.append(("write", cell, text))
        other = SLOTS[1] if slot == SLOTS[0] else SLOTS[0]
        deeds.append(("write", other, whole_text(f"{EDITION}{number + 1}\n{lock_text(installation)}")))
        # The cells of the meaning are struck last, when it means something else.
        deeds.extend(self.strikes(installation))
        return tuple(deeds)

    def lay(self, installation, contents):
        """Lays an installation down: NoContents."""
        for deed in self.deeds_for(installation, contents):
            self.do(deed)

    def mend(self):
        """Strikes what a cut left behind: packages that do not count, and slots that are not good."""
        deeds = self.strikes(self.meaning())
        for slot in SLOTS:
            if slot in self.disk and told_slot(self.disk[slot]) is None:
                deeds.append(("strike", slot))
        for deed in deeds:
            self.do(deed)
