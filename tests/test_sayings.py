"""Promises 4.1 and 4.2: atoms in their order, axioms with their sources, stands; and part of the example e04."""

import unittest

from lockwright.ahead import choices
from lockwright.books import Book, Entry
from lockwright.booktexts import read_book
from lockwright.errors import NoSource, NoStand, NotClosed, NotFitting
from lockwright.installations import core, is_right
from lockwright.questions import Question, read_question
from lockwright.ranges import has, read_range
from lockwright.sayings import axiom_of, axioms_of, meant_by, order_of, stand_of
from samples import EVERY, branching, chance, entry, nested, odd_things, odd_tuples, raised
from worlds import Truth, all_installations, some_world

BOOK = read_book("""package app 1.0.0
package app 2.0.0
  feature gui turns icons
  feature icons
  needs lib (>=1.0.0)
  if gui needs kit (^1.0.0) with fast slow
  needs gone (*) with odd
  bars lib (^2.0.0)
  bars never (*)
package kit 1.0.0
  feature fast
package lib 1.0.0
package lib 2.0.0
""")
QUESTION = read_question("wish lib (<2.0.0)\nwish app (*) with gui\nwish zoo (*) with wild\nwish lib (*)\nlock app 1.0.0\nlock kit 9.0.0\n")
ONE, TWO = (1, 0, 0), (2, 0, 0)

ORDER = (
    (("in", "lib"), False), (("at", "lib", TWO), True), (("at", "lib", ONE), True),
    (("in", "app"), False), (("at", "app", ONE), True), (("at", "app", TWO), True),
    (("in", "zoo"), False),
    (("in", "gone"), False),
    (("in", "kit"), False), (("at", "kit", ONE), True),
    (("on", "app", "gui"), False), (("on", "app", "icons"), False), (("on", "zoo", "wild"), False),
    (("on", "gone", "odd"), False), (("on", "kit", "fast"), False), (("on", "kit", "slow"), False),
)


def no(*atom):
    return (False, atom)


def yes(*atom):
    return (True, atom)


AXIOMS = (
    (("bar", "app", TWO, 0, TWO), (no("at", "app", TWO), no("at", "lib", TWO))),
    (("home", "app", "gui"), (no("on", "app", "gui"), yes("in", "app"))),
    (("home", "app", "icons"), (no("on", "app", "icons"), yes("in", "app"))),
    (("home", "gone", "odd"), (no("on", "gone", "odd"), yes("in", "gone"))),
    (("home", "kit", "fast"), (no("on", "kit", "fast"), yes("in", "kit"))),
    (("home", "kit", "slow"), (no("on", "kit", "slow"), yes("in", "kit"))),
    (("home", "zoo", "wild"), (no("on", "zoo", "wild"), yes("in", "zoo"))),
    (("inner", "app", ONE), (no("at", "app", ONE), yes("in", "app"))),
    (("inner", "app", TWO), (no("at", "app", TWO), yes("in", "app"))),
    (("inner", "kit", ONE), (no("at", "kit", ONE), yes("in", "kit"))),
    (("inner", "lib", ONE), (no("at", "lib", ONE), yes("in", "lib"))),
    (("inner", "lib", TWO), (no("at", "lib", TWO), yes("in", "lib"))),
    (("lacks", "app", ONE, "gui"), (no("at", "app", ONE), no("on", "app", "gui"))),
    (("lacks", "app", ONE, "icons"), (no("at", "app", ONE), no("on", "app", "icons"))),
    (("lacks", "kit", ONE, "slow"), (no("at", "kit", ONE), no("on", "kit", "slow"))),
    (("need", "app", TWO, 0), (no("at", "app", TWO), yes("at", "lib", ONE), yes("at", "lib", TWO))),
    (("need", "app", TWO, 1), (no("at", "app", TWO), no("on", "app", "gui"), yes("at", "kit", ONE))),
    (("need", "app", TWO, 2), (no("at", "app", TWO),)),
    (("need_on", "app", TWO, 1, "fast"), (no("at", "app", TWO), no("on", "app", "gui"), yes("on", "kit", "fast"))),
    (("need_on", "app", TWO, 1, "slow"), (no("at", "app", TWO), no("on", "app", "gui"), yes("on", "kit", "slow"))),
    (("need_on", "app", TWO, 2, "odd"), (no("at", "app", TWO), yes("on", "gone", "odd"))),
    (("one", "app", ONE, TWO), (no("at", "app", ONE), no("at", "app", TWO))),
    (("one", "lib", ONE, TWO), (no("at", "lib", ONE), no("at", "lib", TWO))),
    (("some", "app"), (no("in", "app"), yes("at", "app", ONE), yes("at", "app", TWO))),
    (("some", "gone"), (no("in", "gone"),)),
    (("some", "kit"), (no("in", "kit"), yes("at", "kit", ONE))),
    (("some", "lib"), (no("in", "lib"), yes("at", "lib", ONE), yes("at", "lib", TWO))),
    (("some", "zoo"), (no("in", "zoo"),)),
    (("turns", "app", TWO, "gui", "icons"), (no("at", "app", TWO), no("on", "app", "gui"), yes("on", "app", "icons"))),
    (("wish", 0), (yes("at", "lib", ONE),)),
    (("wish", 1), (yes("at", "app", ONE), yes("at", "app", TWO))),
    (("wish", 2), ()),
    (("wish", 3), (yes("at", "lib", ONE), yes("at", "lib", TWO))),
    (("wish_on", 1, "gui"), (yes("on", "app", "gui"),)),
    (("wish_on", 2, "wild"), (yes("on", "zoo", "wild"),)),
)


def told_order(book, question):
    """The order, said once more."""
    others = {one.name for one in book.entries} | {need[1] for one in book.entries for need in one.needs}
    names = list(dict.fromkeys([wish[0] for wish in question.wishes] + sorted(others)))
    order = []
    for name in names:
        order.append((("in", name), False))
        order += [(("at", name, version), True) for version in choices(book, question, name)[1:]]
    for name in names:
        features = {feature for one in book.entries if one.name == name for feature, _ in one.features}
        features |= {feature for one in book.entries for need in one.needs if need[1] == name for feature in need[3]}
        features |= {feature for wish in question.wishes if wish[0] == name for feature in wish[2]}
        order += [(("on", name, feature), False) for feature in sorted(features)]
    return tuple(order)


def told_axioms(book, question):
    """The dict from sources to sets of literals, said once more."""
    atoms = [atom for atom, _ in told_order(book, question)]
    entries = {(one.name, one.version): one for one in book.entries}
    at = lambda name, rng=EVERY: {(True, atom) for atom in atoms if atom[0] == "at" and atom[1] == name and has(rng, atom[2])}
    told = {}
    for atom in atoms:
        if atom[0] == "in":
            told[("some", atom[1])] = {(False, atom)} | at(atom[1])
        elif atom[0] == "on":
            told[("home", atom[1], atom[2])] = {(False, atom), (True, ("in", atom[1]))}
    for (name, version), one in entries.items():
        here = (False, ("at", name, version))
        told[("inner", name, version)] = {here, (True, ("in", name))}
        for other in entries:
            if other[0] == name and version < other[1]:
                told[("one", name, version, other[1])] = {here, (False, ("at", name, other[1]))}
        for atom in atoms:
            if atom[:2] == ("on", name) and atom[2] not in dict(one.features):
                told[("lacks", name, version, atom[2])] = {here, (False, atom)}
        for feature, turns in one.features:
            for other in turns:
                told[("turns", name, version, feature, other)] = {here, (False, ("on", name, feature)), (True, ("on", name, other))}
        for j, (feature, other, rng, wanted) in enumerate(one.needs):
            begin = {here} | ({(False, ("on", name, feature))} if feature else set())
            told[("need", name, version, j)] = begin | at(other, rng)
            for each in wanted:
                told[("need_on", name, version, j, each)] = begin | {(True, ("on", other, each))}
        for j, (other, rng) in enumerate(one.bars):
            for _, atom in at(other, rng):
                told[("bar", name, version, j, atom[2])] = {here, (False, atom)}
    for i, (name, rng, wanted) in enumerate(question.wishes):
        told[("wish", i)] = at(name, rng)
        for each in wanted:
            told[("wish_on", i, each)] = {(True, ("on", name, each))}
    return told


class OrderTest(unittest.TestCase):
    def test_order(self):
        self.assertEqual(order_of(BOOK, QUESTION), ORDER)

    def test_no_wishes_and_no_book(self):
        plain = Question((), ())
        self.assertEqual([atom[1] for atom, _ in order_of(BOOK, plain) if atom[0] == "in"], ["app", "gone", "kit", "lib"])
        self.assertEqual(
            [atom[1:] for atom, _ in order_of(BOOK, plain) if atom[0] == "on"],
            [("app", "gui"), ("app", "icons"), ("gone", "odd"), ("kit", "fast"), ("kit", "slow")],
        )
        self.assertEqual(order_of(Book(()), plain), ())
        self.assertEqual(order_of(Book(()), read_question("wish b (*) with f\nwish a (*)\nwish b (*) with e\n")), (
            (("in", "b"), False), (("in", "a"), False), (("on", "b", "e"), False), (("on", "b", "f"), False),
        ))

    def test_bars_name_no_package_of_the_order(self):
        self.assertNotIn("never", [atom[1] for atom, _ in order_of(BOOK, QUESTION)])

    def test_locks_go_first_if_the_book_has_them(self):
        for text, wanted in [("lock lib 1.0.0\n", [ONE, TWO]), ("lock lib 2.0.0\n", [TWO, ONE]), ("lock lib 3.0.0\n", [TWO, ONE])]:
            order = order_of(BOOK, read_question(text))
            self.assertEqual([atom[2] for atom, _ in order if atom[:2] == ("at", "lib")], wanted)


class AxiomsTest(unittest.TestCase):
    def test_all_of_them(self):
        told = axioms_of(BOOK, QUESTION)
        for one, other in zip(told, AXIOMS):
            self.assertEqual(one, other)
        self.assertEqual(told, AXIOMS)

    def test_clauses_and_sources_ascend(self):
        told = axioms_of(BOOK, QUESTION)
        self.assertEqual([source for source, _ in told], sorted({source for source, _ in told}))
        for _, clause in told:
            self.assertEqual(clause, tuple(sorted(clause)))
            self.assertEqual(len({atom for _, atom in clause}), len(clause))

    def test_each_source(self):
        for source, clause in AXIOMS:
            self.assertEqual(axiom_of(BOOK, QUESTION, source), clause)

    def test_example(self):
        b = read_book("package app 1.0.0\n  needs lib (^1.0.0)\npackage app 2.0.0\n  needs lib (^2.0.0)\npackage lib 1.1.0\npackage lib 1.2.0\n")
        q = Question((("app", read_range("*"), ()),), ())
        self.assertEqual(axiom_of(b, q, ("need", "app", (2, 0, 0), 0)), ((False, ("at", "app", (2, 0, 0))),))

    def test_no_source(self):
        for source in [
            (), ("some",), ("some", "never"), ("some", "app", ONE), ("one", "app", TWO, ONE), ("one", "app", ONE, ONE),
            ("one", "app", ONE), ("one", "kit", ONE, TWO), ("inner", "app", (3, 0, 0)), ("inner", "zoo", ONE), ("inner", "app"),
            ("home", "app", "slow"), ("home", "lib", "gui"), ("lacks", "app", TWO, "gui"), ("lacks", "app", ONE, "slow"),
            ("lacks", "zoo", ONE, "wild"), ("turns", "app", TWO, "icons", "gui"), ("turns", "app", ONE, "gui", "icons"),
            ("turns", "app", TWO, "gui", "gui"), ("need", "app", TWO, 3), ("need", "app", TWO, -1), ("need", "app", ONE, 0),
            ("need", "app", TWO, "0"), ("need_on", "app", TWO, 0, "fast"), ("need_on", "app", TWO, 1, "odd"), ("need_on", "app", TWO, 1),
            ("bar", "app", TWO, 0, ONE), ("bar", "app", TWO, 1, ONE), ("bar", "app", TWO, 0), ("wish", 4), ("wish", -1), ("wish", "0"),
            ("wish",), ("wish", 0, "gui"), ("wish_on", 0, "gui"), ("wish_on", 1, "icons"), ("wish_on", 1), ("wants", 1), ("Some", "app"),
            ["some", "app"], "some", ("some", "app", "x", "y", "z", "w"), ("some", ("app",)), ("some", None), (b"some", "app"), None,
        ]:
            self.assertIsNotNone(raised(NoSource, axiom_of, BOOK, QUESTION, source), source)

    def test_flags_are_no_integers(self):
        book = Book((entry("a", (1, 0, 1), needs=(("", "b", EVERY, ("f",)), ("", "b", EVERY, ("f",)))), entry("b", ONE)))
        question = Question((("a", EVERY, ("f",)), ("b", EVERY, ("f",))), ())
        for source in [
            ("wish", True), ("wish", False), ("wish_on", True, "f"), ("need", "a", (1, 0, 1), True), ("need", "a", (True, 0, 1), 1),
            ("need_on", "a", (1, False, 1), 1, "f"), ("inner", "a", (1, 0, True)), ("inner", "a", [1, 0, 1]),
        ]:
            self.assertIsNotNone(raised(NoSource, axiom_of, book, question, source), source)
        self.assertEqual(axiom_of(book, question, ("wish", 1)), ((True, ("at", "b", ONE)),))

    def test_anything_is_no_source(self):
        for thing in odd_things() + odd_tuples() + [nested(40), branching(40)]:
            self.assertIsNotNone(raised(NoSource, axiom_of, BOOK, QUESTION, thing))
            self.assertIsNotNone(raised(NoSource, axiom_of, BOOK, QUESTION, ("some", thing)))
            self.assertIsNotNone(raised(NoSource, axiom_of, BOOK, QUESTION, ("need", "app", thing, 0)))

    def test_drawn_books(self):
        dice = chance(41)
        kinds = set()
        for _ in range(150):
            book, question = some_world(dice)
            self.assertEqual(order_of(book, question), told_order(book, question))
            told = told_axioms(book, question)
            self.assertEqual(axioms_of(book, question), tuple((source, tuple(sorted(told[source]))) for source in sorted(told)))
            for source in told:
                self.assertEqual(axiom_of(book, question, source), tuple(sorted(told[source])))
                kinds.add(source[0])
        self.assertEqual(len(kinds), 11)


class StandsTest(unittest.TestCase):
    BOOK = read_book("package app 1.0.0\n  feature f\n  if f needs lib (*) with g\npackage lib 1.0.0\n  feature g\npackage lib 2.0.0\n  bars app (*)\n")
    WISH = read_question("wish app (*)\n")
    APP, LIB = ("app", ONE, ()), ("lib", ONE, ())

    def test_stand_of(self):
        order = [atom for atom, _ in order_of(self.BOOK, self.WISH)]
        for thing, so in [
            ((self.APP,), [("in", "app"), ("at", "app", ONE)]),
            ((self.APP, self.LIB), [("in", "app"), ("at", "app", ONE), ("in", "lib"), ("at", "lib", ONE)]),
            ((("app", ONE, ("f",)), ("lib", ONE, ("g",))), [
                ("in", "app"), ("at", "app", ONE), ("in", "lib"), ("at", "lib", ONE), ("on", "app", "f"), ("on", "lib", "g"),
            ]),
        ]:
            self.assertEqual(stand_of(self.BOOK, self.WISH, thing), tuple(atom in so for atom in order))
        self.assertEqual(stand_of(Book(()), Question((), ()), ()), ())

    def test_not_closed(self):
        for thing in [
            (), (self.LIB,), [self.APP], (self.LIB, self.APP), (("app", TWO, ()),), (("app", ONE, ("f",)), self.LIB),
            (self.APP, ("lib", TWO, ())), (("app", ONE, ("g",)),), (("app", ONE, ("f",)),),
        ] + odd_things() + odd_tuples() + [nested(40), branching(40)]:
            self.assertIsNotNone(raised(NotClosed, stand_of, self.BOOK, self.WISH, thing))

    def test_meant_by(self):
        whole = (("app", ONE, ()), ("lib", ONE, ("g",)))
        self.assertEqual(meant_by(self.BOOK, self.WISH, stand_of(self.BOOK, self.WISH, whole)), (self.APP,))
        needy = (("app", ONE, ("f",)), ("lib", ONE, ("g",)))
        self.assertEqual(meant_by(self.BOOK, read_question("wish app (*) with f\n"), stand_of(self.BOOK, self.WISH, needy)), needy)

    def test_no_stand(self):
        many = len(order_of(self.BOOK, self.WISH))
        for thing in [(), (True,) * (many - 1), (True,) * (many + 1), [True] * many, (1,) * many, (None,) * many, (False,) * (many - 1) + (0,)]:
            self.assertIsNotNone(raised(NoStand, meant_by, self.BOOK, self.WISH, thing))
        for thing in odd_things() + odd_tuples() + [nested(40), branching(40)]:
            self.assertIsNotNone(raised(NoStand, meant_by, self.BOOK, self.WISH, thing))

    def test_not_fitting(self):
        many = len(order_of(self.BOOK, self.WISH))
        for stand, source in [
            ((False,) * many, ("wish", 0)), ((True,) * many, ("bar", "lib", TWO, 0, ONE)),
        ]:
            self.assertEqual(raised(NotFitting, meant_by, self.BOOK, self.WISH, stand).source, source)

    def test_third_step(self):
        """An installation satisfies (a) to (d) exactly if in its stand all axioms are so; what is meant is right."""
        dice = chance(42)
        seen = {True: 0, False: 0}
        for _ in range(70):
            book, question = some_world(dice)
            order = [atom for atom, _ in order_of(book, question)]
            axioms = told_axioms(book, question)
            for thing in all_installations(book):
                there = {("in", name) for name, _, _ in thing} | {("at", name, version) for name, version, _ in thing}
                there |= {("on", name, feature) for name, _, features in thing for feature in features}
                wrong = [source for source in sorted(axioms) if not any((atom in there) == flag for flag, atom in axioms[source])]
                closed = not Truth(book, question, thing).faults()
                self.assertIs(closed, not wrong)
                seen[closed] += 1
                stand = tuple(atom in there for atom in order)
                if closed:
                    self.assertEqual(stand_of(book, question, thing), stand)
                    self.assertEqual(meant_by(book, question, stand), core(book, question, thing))
                    self.assertTrue(is_right(book, question, meant_by(book, question, stand)))
                else:
                    self.assertIsNotNone(raised(NotClosed, stand_of, book, question, thing))
                    self.assertEqual(raised(NotFitting, meant_by, book, question, stand).source, wrong[0])
        self.assertGreater(min(seen.values()), 100)


class NothingIsChangedTest(unittest.TestCase):
    def test_equal_calls(self):
        book, question = Book(BOOK.entries), Question(QUESTION.wishes, QUESTION.locks)
        for function in [order_of, axioms_of]:
            self.assertEqual(function(book, question), function(book, question))
        self.assertEqual((book, question), (BOOK, QUESTION))
        self.assertIsInstance(BOOK.entries[0], Entry)


if __name__ == "__main__":
    unittest.main()
