"""Promises 11.1 to 11.3 and example e07: the shelf, what it means, and how installations are laid down on it."""

import re
import unittest

from lockwright.errors import NoContents, NoDeed, NoNumber
from lockwright.locks import lock_text
from lockwright.shelves import Shelf
from samples import branching, chance, nested, odd_things, odd_tuples, raised

LIB = ("lib", (1, 1, 0), ())
APP = ("app", (1, 0, 0), ("f", "g"))
CELL = "pack lib 1.1.0"
ODD = odd_things() + odd_tuples() + [nested(40), branching(40)]


def whole(body):
    return "size " + str(len(body)) + "\n" + body


def slot(number, installation):
    return whole(f"edition {number}\n{lock_text(installation)}")


def cell(triple):
    return f"pack {triple[0]} {'.'.join(map(str, triple[1]))}"


def shelf_of(disk):
    shelf = Shelf()
    for name, text in disk.items():
        shelf.do(("write", name, text))
    return shelf


def body_in(text):
    """The body of a whole text, by another way of reading it."""
    found = re.match(r"size (0|[1-9][0-9]*)\n", text)
    if found is None or int(found.group(1)) != len(text) - found.end():
        return None
    return text[found.end():]


def good_in(disk, name):
    """The edition and the installation of a slot, by another way of reading it."""
    body = body_in(disk.get(name, ""))
    found = body and re.fullmatch(r"edition ([1-9][0-9]{0,11})\n((?:[a-z]{1,12} [0-9]+\.[0-9]+\.[0-9]+(?: [a-z]{1,12})*\n)*)check ([0-9]+)\n", body)
    if not found:
        return None
    rows = [row.split(" ") for row in found.group(2).split("\n")[:-1]]
    installation = tuple((row[0], tuple(map(int, row[1].split("."))), tuple(row[2:])) for row in rows)
    return (int(found.group(1)), installation) if body.endswith("\n" + lock_text(installation)) else None


def best_in(disk):
    """The edition, the number of the slot and the installation that a disk means."""
    told = [(good[0], -at, good[1]) for at, good in enumerate([good_in(disk, "slot 0"), good_in(disk, "slot 1")]) if good is not None]
    if not told:
        return (0, None, ())
    number, at, installation = max(told, key=lambda one: one[:2])
    return (number, -at, installation)


def told_deeds(disk, installation, contents):
    """The deeds for an installation, by what the document says."""
    number, at, meaning = best_in(disk)
    deeds = []
    for triple in installation:
        text = whole(contents[triple[:2]])
        if disk.get(cell(triple)) != text and cell(triple) not in [cell(one) for one in meaning]:
            deeds.append(("write", cell(triple), text))
    deeds.append(("write", "slot 1" if at == 0 else "slot 0", slot(number + 1, installation)))
    stale = {name for name in disk if name[:5] == "pack "} - {cell(triple) for triple in installation}
    return tuple(deeds + [("strike", name) for name in sorted(stale)])


class DiskTest(unittest.TestCase):
    def test_e07(self):
        shelf = Shelf()
        shelf.lay((LIB,), {("lib", (1, 1, 0)): "x"})
        self.assertEqual(shelf.meaning(), (LIB,))
        self.assertEqual(shelf.cells()[CELL], "size 1\nx")

    def test_deeds(self):
        shelf = Shelf()
        self.assertEqual(shelf.cells(), {})
        self.assertIsNone(shelf.do(("write", "a", "text\n")))
        self.assertIsNone(shelf.do(("write", "", "")))
        self.assertEqual(shelf.cells(), {"a": "text\n", "": ""})
        shelf.do(("write", "a", "other"))
        self.assertIsNone(shelf.do(("strike", "")))
        self.assertEqual(shelf.cells(), {"a": "other"})
        self.assertIsNone(shelf.do(("strike", "gone")))
        self.assertEqual(shelf.cells(), {"a": "other"})
        shelf.do(("strike", "a"))
        shelf.do(("strike", "a"))
        self.assertEqual(shelf.cells(), {})

    def test_cells_are_new(self):
        shelf = shelf_of({"a": "b"})
        cells = shelf.cells()
        self.assertIs(type(cells), dict)
        cells["c"] = "d"
        cells.pop("a")
        self.assertEqual(shelf.cells(), {"a": "b"})
        before = shelf.cells()
        shelf.do(("strike", "a"))
        self.assertEqual(before, {"a": "b"})

    def test_cuts(self):
        for many in range(5):
            for shelf in [Shelf(), shelf_of({"a": "what was there"})]:
                self.assertIsNone(shelf.cut(("write", "a", "text"), many))
                self.assertEqual(shelf.cells(), {"a": "text"[:many]})
        shelf = Shelf()
        shelf.cut(("write", "b", ""), 0)
        self.assertEqual(shelf.cells(), {"b": ""})

    WRONG = [
        [], ["write", "a", "b"], ("write",), ("write", "a"), ("write", "a", "b", "c"), ("write", "a", b"b"), ("write", b"a", "b"), ("write", 1, "b"), ("write", "a", None),
        ("write", ("a",), "b"), ("write", "a", ["b"]), ("strike",), ("strike", "a", "b"), ("strike", None), ("strike", b"a"), ("strike", ("a",)), ("strike", 1), ["strike", "a"],
        ("Write", "a", "b"), ("do", "a"), (b"write", "a", "b"), (b"strike", "a"), ("", "a"), (None, "a", "b"), "strike", ("write", True, "b"), ("read", "a", "b"), ("strike", ""[:0], ""),
        ("cut", "a", "b"), {"write": "a"}, (("write", "a", "b"),), (branching(37), "a", "b"), ("write", branching(37), "b"), ("write", "a", branching(37)), ("strike", branching(38)),
    ]

    def test_no_deed(self):
        shelf = shelf_of({"a": "b"})
        for thing in ODD + self.WRONG:
            self.assertIsNotNone(raised(NoDeed, shelf.do, thing), thing)
            for many in [0, None, -1, 100]:
                self.assertIsNotNone(raised(NoDeed, shelf.cut, thing, many), thing)
        for many in [0, 1, -1, None, True]:
            self.assertIsNotNone(raised(NoDeed, shelf.cut, ("strike", "a"), many))
        self.assertEqual(shelf.cells(), {"a": "b"})

    def test_no_number(self):
        shelf = shelf_of({"a": "b"})
        for many in [-1, 5, 10 ** 12 - 1, True, False, "1", (1,), [1], None] + [thing for thing in ODD if thing not in (0, 1) or isinstance(thing, bool)]:
            self.assertIsNotNone(raised(NoNumber, shelf.cut, ("write", "a", "text"), many), many)
            self.assertIsNotNone(raised(NoNumber, shelf.cut, ("write", "c", "text"), many), many)
        for many in [1, True, False, -1]:
            self.assertIsNotNone(raised(NoNumber, shelf.cut, ("write", "a", ""), many))
        self.assertEqual(shelf.cells(), {"a": "b"})


class MeaningTest(unittest.TestCase):
    def check(self, disk, number, meaning, sound=True):
        shelf = shelf_of(disk)
        self.assertEqual((shelf.edition(), shelf.meaning()), (number, meaning), disk)
        self.assertIs(shelf.is_sound(), sound, disk)
        self.assertIs(type(shelf.meaning()), tuple)
        self.assertEqual(shelf.cells(), disk)

    def test_empty(self):
        self.check({}, 0, ())
        self.check({"slot 0": "", "slot 1": "size 0\n", "pack lib 1.1.0": "x", "slot": slot(3, (LIB,)), "slot 2": slot(4, (LIB,)), "Slot 0": slot(5, (LIB,))}, 0, ())

    def test_good_slots(self):
        disk = {CELL: whole("x"), cell(APP): whole("")}
        self.check({**disk, "slot 0": slot(1, (LIB,))}, 1, (LIB,))
        self.check({**disk, "slot 1": slot(1, (LIB,))}, 1, (LIB,))
        self.check({**disk, "slot 0": slot(1, (LIB,)), "slot 1": slot(2, (APP, LIB))}, 2, (APP, LIB))
        self.check({**disk, "slot 0": slot(10, (LIB,)), "slot 1": slot(9, (APP,))}, 10, (LIB,))
        self.check({**disk, "slot 0": slot(7, (LIB,)), "slot 1": slot(7, (APP,))}, 7, (LIB,))
        self.check({**disk, "slot 0": slot(7, ()), "slot 1": slot(7, (APP,))}, 7, ())
        self.check({**disk, "slot 0": slot(1, (LIB,)), "slot 1": slot(999999999999, (APP,))}, 999999999999, (APP,))
        self.check({"slot 1": slot(3, ())}, 3, ())

    def test_slots_that_are_not_good(self):
        good = slot(1, (LIB,))
        body = good.split("\n", 1)[1]
        lock = lock_text((LIB,))
        bad = [good[:cut] for cut in range(len(good))] + [good + "x", good + "\n", " " + good, "\n" + good, body, lock]
        bad += [f"size {head}\n{body}" for head in [f"0{len(body)}", f" {len(body)}", f"{len(body)} ", f"+{len(body)}", len(body) + 1, len(body) - 1, "", "x", f"{len(body)}.0", "9" * 5000]]
        bad += [f"Size {len(body)}\n{body}", f"size{len(body)}\n{body}", f"size {len(body)} {body}", f"size {len(body) + 1}\n\n{body}"]
        bad += [whole(f"edition {number}\n{lock}") for number in [0, "00", "01", "-1", "+1", " 1", "1 ", "", "x", "1.0", "1_0", "\u0661", 1000000000000, 9999999999999, "9" * 5000]]
        bad += [whole(text) for text in [f"edition 1{lock}", f"edition 1\n\n{lock}", f"Edition 1\n{lock}", f"edition1\n{lock}", f"1\n{lock}", f"edition\n{lock}", "edition 1\n", "edition 1",
                                         lock, "", f"edition 1\n{lock}x", f"edition 1\n{lock}\n", f"edition 1\n{lock[:-1]}", f"edition 1\n{lock.replace('lib', 'lia')}", f"edition edition 1\n{lock}",
                                         "edition 1\nlib 1.1.0\ncheck 1\n", "edition 1\ncheck 00\n", f"edition 1 \n{lock}"]]
        other = slot(4, (APP,))
        for text in bad:
            self.check({"slot 0": text}, 0, ())
            self.check({"slot 1": text}, 0, ())
            self.check({"slot 0": text, "slot 1": other}, 4, (APP,), False)
            self.check({"slot 0": other, "slot 1": text}, 4, (APP,), False)

    def test_great_editions(self):
        for number in [1, 9, 10, 99999999, 100000000, 999999999998, 999999999999]:
            self.check({"slot 1": slot(number, ()), "slot 0": slot(1, ())}, number, ())

    def test_sound(self):
        disk = {"slot 0": slot(1, (APP, LIB)), cell(APP): whole("text")}
        for text, sound in [("size 0\n", True), ("size 1\nx", True), ("size 2\n\n\n", True), (whole("size 3\nabc"), True), (whole("a" * 12345), True),
                            ("", False), ("size 0", False), ("size 1\n", False), ("size 1\nxy", False), ("size 00\n", False), ("size 01\nx", False), ("x", False), ("size \n", False),
                            ("size 0\n\n", False), ("size -1\n", False), ("size +1\nx", False), ("size 1 \nx", False), ("SIZE 1\nx", False), (" size 1\nx", False), ("\nsize 1\nx", False),
                            (whole("a" * 12345)[:-1], False), ("size " + "9" * 5000 + "\n", False), ("size 1_0\n0123456789", False), ("size \u0661\nx", False)]:
            self.check({**disk, CELL: text}, 1, (APP, LIB), sound)
            self.check({**disk, CELL: text, "slot 1": slot(2, (APP,))}, 2, (APP,), True)
        self.check(disk, 1, (APP, LIB), False)
        self.check({**disk, CELL + " ": "size 1\nx", "pack lib 1.1": "size 1\nx"}, 1, (APP, LIB), False)

    def test_drawn(self):
        dice = chance(61)
        pieces = ["size ", "0", "1", "9", "edition ", "\n", "edition 1\n", "check 0\n", "edition 12\ncheck 0\n", "edition 2\n" + lock_text((LIB,))]
        goods = 0
        for _ in range(4000):
            disk = {}
            for name in ["slot 0", "slot 1", CELL]:
                body = "".join(dice.choice(pieces) for _ in range(dice.randint(0, 2)))
                disk[name] = dice.choice([whole(body), whole(body), whole(body), body, whole(body)[:-1], whole(body) + "x"])
            number, _, meaning = best_in(disk)
            self.check(disk, number, meaning, all(body_in(disk.get(cell(triple), "")) is not None for triple in meaning))
            goods += number > 0
        self.assertGreater(goods, 200)


class DeedsTest(unittest.TestCase):
    BOTH = {("lib", (1, 1, 0)): "x", ("app", (1, 0, 0)): "some\ntext"}

    def test_by_hand(self):
        shelf = Shelf()
        deeds = shelf.deeds_for((APP, LIB), self.BOTH)
        self.assertEqual(deeds, (("write", cell(APP), "size 9\nsome\ntext"), ("write", CELL, "size 1\nx"), ("write", "slot 0", slot(1, (APP, LIB)))))
        self.assertEqual(slot(1, (APP, LIB)), "size 46\nedition 1\napp 1.0.0 f g\nlib 1.1.0\ncheck 16525\n")
        self.assertEqual(shelf.cells(), {})
        self.assertIsNone(shelf.lay((APP, LIB), self.BOTH))
        self.assertEqual(shelf.cells(), {cell(APP): "size 9\nsome\ntext", CELL: "size 1\nx", "slot 0": slot(1, (APP, LIB))})
        # What is there stays as it is, whatever contents tell now.
        other = ("lib", (1, 2, 0), ())
        deeds = shelf.deeds_for((APP, other), {("app", (1, 0, 0)): "new", ("lib", (1, 2, 0)): ""})
        self.assertEqual(deeds, (("write", "pack lib 1.2.0", "size 0\n"), ("write", "slot 1", slot(2, (APP, other))), ("strike", CELL)))
        for deed in deeds:
            shelf.do(deed)
        self.assertEqual((shelf.meaning(), shelf.edition()), ((APP, other), 2))
        self.assertEqual(shelf.deeds_for((), {}), (("write", "slot 0", slot(3, ())), ("strike", cell(APP)), ("strike", "pack lib 1.2.0")))
        self.assertIsInstance(shelf.deeds_for((), {}), tuple)

    def test_laid_once_more(self):
        shelf = Shelf()
        shelf.lay((LIB,), self.BOTH)
        self.assertEqual(shelf.deeds_for((LIB,), self.BOTH), (("write", "slot 1", slot(2, (LIB,))),))
        shelf.lay((LIB,), self.BOTH)
        shelf.lay((LIB,), {("lib", (1, 1, 0)): "another"})
        self.assertEqual(shelf.cells(), {CELL: "size 1\nx", "slot 0": slot(3, (LIB,)), "slot 1": slot(2, (LIB,))})

    def test_cells_that_are_there(self):
        """What was left behind is taken if it is just what it should be, and written anew if it is not."""
        for text, written in [("size 1\nx", False), ("size 1\n", True), ("", True), ("size 1\ny", True), ("size 01\nx", True), ("size 1\nxx", True), ("x", True)]:
            shelf = shelf_of({CELL: text, "slot 1": slot(3, ())})
            deeds = shelf.deeds_for((LIB,), self.BOTH)
            self.assertEqual(deeds, ((("write", CELL, "size 1\nx"),) if written else ()) + (("write", "slot 0", slot(4, (LIB,))),))

    def test_a_cell_that_belongs_to_the_meaning(self):
        for disk in [{CELL: "size 1\ny"}, {CELL: "size 1\n"}, {CELL: ""}, {}]:
            shelf = shelf_of({**disk, "slot 0": slot(1, (LIB,))})
            self.assertEqual(shelf.deeds_for((LIB,), self.BOTH), (("write", "slot 1", slot(2, (LIB,))),))
        # Other features leave the cell what it was.
        shelf = shelf_of({CELL: "size 1\ny", "slot 0": slot(1, (LIB,))})
        self.assertEqual(shelf.deeds_for((("lib", (1, 1, 0), ("f",)),), self.BOTH), (("write", "slot 1", slot(2, (("lib", (1, 1, 0), ("f",)),))),))

    def test_strikes(self):
        disk = {"pack zoo 1.0.0": "", "pack ": "a", "pack lib 1.1": "b", "packs": "c", "Pack a": "d", "other": "e", "pack b 1.0.0": "", "pack": "", " pack a": "", CELL: "size 1\nx",
                "slot 0": slot(5, ()), "slot 1": "bent", "slot 2": ""}
        shelf = shelf_of(disk)
        strikes = tuple(("strike", name) for name in ["pack ", "pack b 1.0.0", "pack lib 1.1", "pack zoo 1.0.0"])
        self.assertEqual(shelf.deeds_for((LIB,), self.BOTH), (("write", "slot 1", slot(6, (LIB,))), *strikes))
        self.assertIsNone(shelf.mend())
        left = {name: text for name, text in disk.items() if not name.startswith("pack ") and name != "slot 1"}
        self.assertEqual(shelf.cells(), left)

    def test_mend(self):
        for disk, struck in [
            ({}, []), ({"slot 0": ""}, ["slot 0"]), ({"slot 1": "size 0\n", "slot 0": slot(1, ())}, ["slot 1"]), ({"slot 0": slot(1, ()), "slot 1": slot(2, ())}, []),
            ({"slot 0": slot(2, ()), "slot 1": slot(2, (LIB,)), CELL: whole("x")}, [CELL]), ({"slot 0": slot(1, ()), "slot 1": slot(2, (LIB,)), CELL: whole("x")}, []),
            ({"slot 0": slot(1, (APP,)), "slot 1": slot(2, (LIB,)), CELL: "not whole", cell(APP): whole("x")}, [cell(APP)]), ({"a": "", "slot 0 ": "x", CELL: whole("x")}, [CELL]),
            ({"slot 0": slot(0, ()), "slot 1": slot(1, ())}, ["slot 0"]), ({"slot 1": slot("01", ())}, ["slot 1"]), ({"slot 1": slot(1000000000000, (LIB,)), CELL: whole("x")}, ["slot 1", CELL]),
        ]:
            shelf = shelf_of(disk)
            before = (shelf.meaning(), shelf.edition(), shelf.is_sound())
            self.assertIsNone(shelf.mend())
            left = {name: text for name, text in disk.items() if name not in struck}
            self.assertEqual(shelf.cells(), left)
            self.assertEqual((shelf.meaning(), shelf.edition(), shelf.is_sound()), before)
            shelf.mend()
            self.assertEqual(shelf.cells(), left)

    def test_editions(self):
        for disk, cell_name, number in [({}, "slot 0", 1), ({"slot 1": slot(8, ())}, "slot 0", 9), ({"slot 0": slot(8, ())}, "slot 1", 9), ({"slot 0": "x", "slot 1": "x"}, "slot 0", 1),
                                        ({"slot 0": slot(8, ()), "slot 1": slot(9, ())}, "slot 0", 10), ({"slot 0": slot(8, ()), "slot 1": slot(8, ())}, "slot 1", 9),
                                        ({"slot 0": slot(999999999998, ())}, "slot 1", 999999999999)]:
            self.assertEqual(shelf_of(disk).deeds_for((), {}), (("write", cell_name, slot(number, ())),))

    def test_no_contents(self):
        shelf = shelf_of({"slot 0": slot(1, (LIB,)), CELL: whole("x")})
        before = shelf.cells()
        pair, other = ("lib", (1, 1, 0)), ("app", (1, 0, 0))
        wrong = [{}, {pair: "x"}, {other: "x"}, {pair: "x", other: None}, {pair: "x", other: b"x"}, {pair: ["x"], other: "x"}, {pair: "x", other: 1}, [(pair, "x"), (other, "x")],
                 {pair: "x", ("app", (1, 0, 1)): "x"}, {"lib": "x", "app": "x"}, {LIB: "x", APP: "x"}, ((pair, "x"), (other, "x")), {pair: "x", ("app", (True, 0, 0)): "x"},
                 {pair: "x", other: ("x",)}, {("lib", "1.1.0"): "x", other: "x"}]
        for thing in ODD + wrong:
            self.assertIsNotNone(raised(NoContents, shelf.deeds_for, (APP, LIB), thing), thing)
            self.assertIsNotNone(raised(NoContents, shelf.lay, (APP, LIB), thing), thing)
            if not isinstance(thing, dict):
                self.assertIsNotNone(raised(NoContents, shelf.deeds_for, (), thing), thing)
                self.assertIsNotNone(raised(NoContents, shelf.lay, (), thing), thing)
        # Also what already lies there must be told.
        self.assertIsNotNone(raised(NoContents, shelf.lay, (LIB,), {}))
        self.assertEqual(shelf.cells(), before)
        self.assertEqual(len(shelf.deeds_for((), {"x": 1, pair: None, None: [], (True, (0,)): {}})), 2)
        self.assertEqual(len(shelf.deeds_for((APP,), {other: "y", pair: None, "lib": b"", nested(38): 0})), 3)

    def test_contents_stay(self):
        contents = {**self.BOTH, ("zoo", (1, 0, 0)): "z", "odd": 7}
        before = dict(contents)
        shelf = Shelf()
        shelf.lay((APP, LIB), contents)
        self.assertEqual(contents, before)
        contents.clear()
        self.assertEqual(shelf.cells()[CELL], "size 1\nx")
        self.assertEqual(shelf.deeds_for((LIB,), before), shelf.deeds_for((LIB,), before))

    def test_drawn_disks(self):
        """Whatever somebody wrote: the deeds are the told ones."""
        dice = chance(62)
        for _ in range(1500):
            disk = {}
            for name in dice.sample(["slot 0", "slot 1", CELL, cell(APP), "pack lib 1.2.0", "pack x", "x"], dice.randint(0, 7)):
                disk[name] = dice.choice([slot(dice.randint(1, 3), dice.choice([(), (LIB,), (APP, LIB), (APP,)])), whole("x"), whole("y"), "size 1\n", ""])
            shelf = shelf_of(disk)
            contents = {("lib", (1, 1, 0)): dice.choice(["x", "y"]), ("app", (1, 0, 0)): dice.choice(["x", "zz"])}
            thing = dice.choice([(), (LIB,), (APP,), (APP, LIB)])
            self.assertEqual(shelf.deeds_for(thing, contents), told_deeds(disk, thing, contents))


class CutsTest(unittest.TestCase):
    """The seventh step."""

    CONTENTS = {("a", (1, 0, 0)): "first", ("a", (2, 0, 0)): "second\n", ("b", (1, 0, 0)): "", ("c", (1, 2, 3)): "size 1\nx"}
    THINGS = [
        (), (("a", (1, 0, 0), ()),), (("a", (2, 0, 0), ("f",)),), (("a", (1, 0, 0), ()), ("b", (1, 0, 0), ())), (("a", (2, 0, 0), ()), ("b", (1, 0, 0), ("g",)), ("c", (1, 2, 3), ())),
        (("b", (1, 0, 0), ()), ("c", (1, 2, 3), ("f", "g"))),
    ]

    def check(self, shelf, meaning):
        self.assertEqual(shelf.meaning(), meaning)
        self.assertIs(shelf.is_sound(), True)
        other = shelf_of(shelf.cells())
        other.mend()
        once = other.cells()
        self.assertEqual((other.meaning(), other.is_sound(), other.edition()), (meaning, True, shelf.edition()))
        other.mend()
        self.assertEqual(other.cells(), once)
        for triple in meaning:
            self.assertEqual(body_in(once[cell(triple)]), self.CONTENTS[triple[:2]])
        self.assertEqual(sum(name.startswith("pack ") for name in once), len(meaning))

    def go(self, shelf, deeds, meaning, end, amid):
        """Does deeds up to one, perhaps only a part of it, and tells what the shelf means then."""
        for at, deed in enumerate(deeds[:end + 1]):
            if at == end and deed[0] == "strike":
                return meaning
            if at == end and amid is not None:
                # A cut amid a slot may leave what was to come.
                shelf.cut(deed, min(amid, len(deed[2])))
                if not (deed[1].startswith("slot") and amid >= len(deed[2])):
                    return meaning
            else:
                shelf.do(deed)
            if deed[1].startswith("slot"):
                meaning = good_in(shelf.cells(), deed[1])[1]
            self.check(shelf, meaning)
        return meaning

    def test_each_cut(self):
        for first in self.THINGS:
            for then in self.THINGS:
                shelf = Shelf()
                shelf.lay(first, self.CONTENTS)
                deeds = shelf.deeds_for(then, self.CONTENTS)
                for end, deed in enumerate(deeds):
                    for amid in range(len(deed[2]) + 1) if deed[0] == "write" else [None]:
                        other = shelf_of(shelf.cells())
                        meaning = self.go(other, deeds, first, end, amid)
                        self.check(other, meaning)
                        self.assertIn(meaning, (first, then))
                        if amid == 3:
                            other.lay(self.THINGS[3], self.CONTENTS)
                            self.check(other, self.THINGS[3])

    def test_again_and_again(self):
        dice = chance(63)
        for _ in range(60):
            shelf, meaning = Shelf(), ()
            for _ in range(25):
                thing = dice.choice(self.THINGS)
                deeds = shelf.deeds_for(thing, self.CONTENTS)
                self.assertEqual(deeds, told_deeds(shelf.cells(), thing, self.CONTENTS))
                if dice.random() < 0.4:
                    shelf.lay(thing, self.CONTENTS)
                    meaning = thing
                else:
                    meaning = self.go(shelf, deeds, meaning, dice.randrange(len(deeds)), dice.choice([None, 0, 1, 7, dice.randint(0, 40), 10000]))
                self.check(shelf, meaning)
                if dice.random() < 0.3:
                    shelf.mend()
                    self.check(shelf, meaning)

    def test_two_shelves_go_apart(self):
        one, other = Shelf(), Shelf()
        one.lay(self.THINGS[1], self.CONTENTS)
        self.assertEqual((other.cells(), other.meaning()), ({}, ()))


if __name__ == "__main__":
    unittest.main()
