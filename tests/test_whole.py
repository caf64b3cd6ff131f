"""The whole document: its interface, its errors, its examples, and lives that go through all of its parts."""

import importlib
import inspect
import unittest

from lockwright import errors
from lockwright.ahead import choices, priority
from lockwright.books import Book, versions
from lockwright.booktexts import book_text, read_book
from lockwright.building import Workshop, built
from lockwright.errors import NoRollout, NotFetched, Ringed
from lockwright.fetching import digest, fetched, fetched_all
from lockwright.fleets import Fleet, is_rollout, rollout
from lockwright.houses import House
from lockwright.installations import core, fault, is_right, way_to
from lockwright.journals import recovered
from lockwright.locks import lock_text, locks_of, read_lock
from lockwright.merging import merged
from lockwright.papers import is_paper
from lockwright.questions import Question, question_text, read_question
from lockwright.ranges import outside, range_text, read_range
from lockwright.reasons import answer
from lockwright.running import Running, affected, changeover, is_changeover, is_safe, knots
from lockwright.sayings import axiom_of, meant_by, stand_of
from lockwright.shelves import Shelf
from lockwright.tasks import is_fitting, task_of
from lockwright.warrants import is_warrant
from moved import leads, told_affected
from samples import EVERY, branching, chance, entry, nested, odd_things, raised
from test_errors import WITH_FIELD, WITHOUT_FIELD
from test_layout import CLASSES, FUNCTIONS, METHODS_OF
from worlds import NAMES, first_by_all

B = read_book("package app 1.0.0\n  needs lib (^1.0.0)\npackage app 2.0.0\n  needs lib (^2.0.0)\npackage lib 1.1.0\npackage lib 1.2.0\n")
Q = Question((("app", read_range("*"), ()),), ())


def arguments_of(thing):
    return str(inspect.signature(thing)).strip("()")


class InterfaceTest(unittest.TestCase):
    def test_functions(self):
        for stem, wanted in FUNCTIONS.items():
            module = importlib.import_module(f"lockwright.{stem}")
            for text in wanted:
                name, arguments = text[:-1].split("(")
                self.assertEqual(arguments_of(getattr(module, name)), arguments)
                self.assertEqual(getattr(module, name).__module__, f"lockwright.{stem}")

    def test_classes(self):
        for stem, wanted in CLASSES.items():
            for name, arguments in wanted.items():
                kind = getattr(importlib.import_module(f"lockwright.{stem}"), name)
                self.assertEqual((arguments_of(kind), kind.__module__), (", ".join(arguments), f"lockwright.{stem}"))
                self.assertIn("__eq__", vars(kind))
        for (stem, name), wanted in METHODS_OF.items():
            kind = getattr(importlib.import_module(f"lockwright.{stem}"), name)
            self.assertEqual(kind.__module__, f"lockwright.{stem}")
            for text in wanted:
                method, arguments = text[:-1].split("(")
                self.assertEqual(arguments_of(vars(kind)[method]), arguments)

    def test_errors(self):
        for name in list(WITH_FIELD) + WITHOUT_FIELD:
            kind = getattr(errors, name)
            self.assertEqual(kind.__mro__[1:3], (errors.LockError, ValueError))
            self.assertEqual(kind.__module__, "lockwright.errors")
            error = kind(("kept", 1)) if name in WITH_FIELD else kind()
            self.assertEqual([other for other in list(WITH_FIELD) + WITHOUT_FIELD if isinstance(error, getattr(errors, other))], [name])
            if name in WITH_FIELD:
                self.assertEqual(getattr(error, WITH_FIELD[name]), ("kept", 1))

    def test_objects_are_equal_to_nothing_of_another_class(self):
        things = [B, Q, B.entries[0], task_of(B, Q), House(B), Running(B), Shelf(), Workshop(len), Fleet(B, 1, ()), errors.NoEntry()]
        for at, one in enumerate(things):
            self.assertTrue(one == one)
            for other in things[:at] + things[at + 1:] + odd_things() + [(), nested(40), branching(40)]:
                if type(other) is not type(one):
                    self.assertFalse(one == other)
                    self.assertFalse(other == one)


class ExamplesTest(unittest.TestCase):
    def test_e01_and_e02(self):
        self.assertEqual(read_range("^1.2.0, !1.5.0 | 0.0.7"), (((0, 0, 7), (0, 0, 8)), ((1, 2, 0), (1, 5, 0)), ((1, 5, 1), (2, 0, 0))))
        self.assertEqual(range_text(outside(read_range("<2.0.0"))), ">=2.0.0")
        self.assertEqual(versions(B, "app"), ((2, 0, 0), (1, 0, 0)))
        self.assertEqual(priority(B, Q), ("app", "lib"))
        self.assertEqual(choices(B, Q, "lib"), (None, (1, 2, 0), (1, 1, 0)))

    def test_e03_and_e04(self):
        self.assertEqual(answer(B, Q), ("first", (("app", (1, 0, 0), ()), ("lib", (1, 2, 0), ()))))
        self.assertEqual(fault(B, Q, (("app", (2, 0, 0), ()),)), ("need", "app", 0))
        at = ("at", "app", (2, 0, 0))
        source = ("need", "app", (2, 0, 0), 0)
        self.assertEqual(axiom_of(B, Q, source), ((False, at),))
        self.assertIs(is_paper(task_of(B, Q), ((True, at),), (("axiom", source), ("given", (True, at)), ("joined", 1, 0, at))), True)

    def test_e05_to_e07(self):
        self.assertEqual(lock_text(answer(B, Q)[1]), "app 1.0.0\nlib 1.2.0\ncheck 10973\n")
        old, new = ((("app", (1, 0, 0), ()), ("lib", (1, minor, 0), ())) for minor in (1, 2))
        self.assertEqual(affected(B, old, new), ("app", "lib"))
        shelf = Shelf()
        shelf.lay((("lib", (1, 1, 0), ()),), {("lib", (1, 1, 0)): "x"})
        self.assertEqual(shelf.meaning(), (("lib", (1, 1, 0), ()),))
        self.assertEqual(shelf.cells()["pack lib 1.1.0"], "size 1\nx")


def content(name, version):
    return f"content of {name} {version[0]}\n"


def recipe(source, triple, parts):
    return f"{source}|{triple[2]}|" + "".join(f"({text})" for _, text in parts)


def some_easy_entry(dice, name, version):
    """An entry that often can be there: it needs little, and bars less."""
    features = dice.choice([(), (("f", ()),), (("f", ("g",)), ("g", ()))])
    offers = [""] + [feature for feature, _ in features]
    others = [other for other in NAMES if other != name]
    needs = tuple((dice.choice(offers), dice.choice(others), read_range(dice.choice(["*", "*", ">=2.0.0"])), ()) for _ in range(dice.choice([0, 1, 1, 2])))
    bars = ((dice.choice(others), read_range("1.0.0")),) if dice.random() < 0.2 else ()
    return entry(name, version, features, needs, bars)


def some_easy_question(dice):
    wishes = [(name, EVERY, dice.choice([(), (), ("f",)])) for name in dice.sample(NAMES, 2)]
    return Question(tuple(wishes), tuple((name, (dice.randint(1, 2), 0, 0)) for name in NAMES if dice.random() < 0.3))


class Life:
    """A house and all that goes with it, through books that are edited and questions that are asked."""

    def __init__(self, case, dice):
        self.case = case
        self.dice = dice
        book = Book(tuple(some_easy_entry(dice, name, (major, 0, 0)) for name in NAMES for major in (1, 2)))
        self.question = some_easy_question(dice)
        case.assertEqual(read_book(book_text(book)), book)
        self.begin = book
        self.house = House(book)
        self.shelf = Shelf()
        self.shop = Workshop(recipe)
        self.now = ()
        self.seen = {}

    def note(self, what):
        self.seen[what] = self.seen.get(what, 0) + 1

    def edit(self):
        """The next book, and what a journal that is cut leads to."""
        if self.dice.random() < 0.3 and self.house.book().entries:
            one = self.dice.choice(self.house.book().entries)
            self.house.strike(one.name, one.version)
        elif self.dice.random() < 0.2 and self.house.journal():
            self.house.undo()
        else:
            self.house.put(some_easy_entry(self.dice, self.dice.choice(NAMES), (self.dice.randint(1, 2), 0, 0)))
        text = self.house.journal()
        again, many = recovered(self.begin, text)
        self.case.assertEqual((again.book(), again.journal(), many), (self.house.book(), text, len(text)))
        part, many = recovered(self.begin, text[:self.dice.randint(0, len(text))])
        self.case.assertEqual(part.journal(), text[:many])

    def wish(self):
        """Another question, merged of two that were edited apart."""
        text = question_text(self.question)
        self.case.assertEqual(read_question(text), self.question)
        wishes = self.question.wishes
        mine = Question(wishes[1:] if len(wishes) > 2 else wishes, some_easy_question(self.dice).locks)
        theirs = Question((*wishes, (self.dice.choice(NAMES), EVERY, ()))[:4], self.dice.choice([(), self.question.locks]))
        told = merged(self.question, mine, theirs)
        self.note(told[0])
        if told[0] == "merged":
            self.question = told[1]
        else:
            self.question = some_easy_question(self.dice)

    def ask(self):
        """The answer, judged, and what it installs; the old installation if there is none."""
        book, question = self.house.book(), self.question
        told = self.house.ask(question)
        first = first_by_all(book, question)
        task = task_of(book, question)
        self.note(told[0])
        if told[0] == "none":
            self.case.assertIsNone(first)
            self.case.assertIs(is_paper(task, (), told[1]), True)
            return None
        thing = told[1]
        self.case.assertEqual([triple[:2] for triple in thing], [triple[:2] for triple in first])
        self.case.assertIs(is_right(book, question, thing), True)
        self.case.assertEqual(core(book, question, thing), thing)
        stand = stand_of(book, question, thing)
        self.case.assertIs(is_fitting(task, (), stand), True)
        self.case.assertIs(is_warrant(task, (), stand, told[2]), True)
        self.case.assertEqual(meant_by(book, question, stand), thing)
        for name, _, _ in thing:
            self.case.assertEqual(way_to(book, question, thing, name)[-1], name)
        return thing

    def lock(self, thing):
        """The lock text of an installation, and the same answer with its locks."""
        text = lock_text(thing)
        self.case.assertEqual(read_lock(text), thing)
        locked = Question(self.question.wishes, locks_of(thing))
        self.case.assertEqual(answer(self.house.book(), locked)[1], thing)

    def move(self, thing):
        """From what runs to the new installation, if the old one is safe by the book of now."""
        book = self.house.book()
        self.case.assertIs(is_safe(book, thing), True)
        if not is_safe(book, self.now):
            self.note("not safe now")
            self.now = ()
        names = affected(book, self.now, thing)
        self.case.assertEqual(names, told_affected(book, self.now, thing))
        moves = changeover(book, self.now, thing)
        self.case.assertTrue(leads(book, self.now, thing, moves))
        self.case.assertIs(is_changeover(book, self.now, thing, moves), True)
        running = Running(book)
        running.start(self.now)
        for kind, what in moves:
            if kind == "start":
                running.start(what)
            else:
                running.stop(what)
        self.case.assertEqual((running.runs(), running.moves()[1:]), (thing, moves))
        self.roll(thing, names)

    def roll(self, thing, names):
        book = self.house.book()
        both = [triple[0] for triple in self.now if triple[0] in [other[0] for other in thing]]
        if set(names) & set(both):
            self.note("affected")
            self.case.assertIsNotNone(raised(NoRollout, rollout, book, self.now, thing, 3, 3))
        moves = rollout(book, self.now, thing, 3, 2)
        self.case.assertIs(is_rollout(book, self.now, thing, 3, 2, moves), True)
        fleet = Fleet(book, 3, self.now)
        for machine, (kind, what) in moves:
            if kind == "start":
                fleet.start(machine, what)
            else:
                fleet.stop(machine, what)
        self.case.assertEqual([fleet.runs(machine) for machine in range(3)], [thing] * 3)
        self.case.assertGreaterEqual(min([fleet.least_served()[name] for name in both], default=2), 2)

    def lay(self, thing):
        """Fetched from mirrors that lie, built, and laid down with a cut."""
        manifest = {(name, (major, 0, 0)): digest(content(name, (major, 0, 0))) for name in NAMES for major in (1, 2)}
        liar = lambda name, version: self.dice.choice([None, "lie", content(name, (3, 0, 0))])
        contents = fetched_all((liar, content), manifest, thing)
        for name, version, _ in thing:
            self.case.assertEqual(fetched((liar, content), manifest, name, version), (contents[(name, version)], 1))
            self.case.assertIsNotNone(raised(NotFetched, fetched, (liar,), manifest, name, version))
        book = self.house.book()
        rings = [lot for lot in knots(book, thing) if len(lot) > 1]
        if rings:
            self.note("rings")
            self.case.assertEqual(raised(Ringed, self.shop.build, book, thing, contents).names, rings[0])
        else:
            self.case.assertEqual(self.shop.build(book, thing, contents), built(book, thing, contents, recipe))
        before = self.shelf.meaning()
        deed = self.dice.choice(self.shelf.deeds_for(thing, contents))
        if deed[0] == "write" and deed[2]:
            for other in self.shelf.deeds_for(thing, contents):
                if other == deed:
                    break
                self.shelf.do(other)
            self.shelf.cut(deed, self.dice.randrange(len(deed[2])))
            self.case.assertEqual((self.shelf.meaning(), self.shelf.is_sound()), (before, True))
        if self.dice.random() < 0.5:
            self.shelf.mend()
        self.shelf.lay(thing, contents)
        self.case.assertEqual((self.shelf.meaning(), self.shelf.is_sound()), (thing, True))
        self.now = self.shelf.meaning()

    def day(self):
        self.edit()
        if self.dice.random() < 0.5:
            self.wish()
        thing = self.ask()
        if thing is not None:
            self.lock(thing)
            self.move(thing)
            self.lay(thing)


class LivesTest(unittest.TestCase):
    def test_drawn_lives(self):
        dice = chance(111)
        seen = {}
        for _ in range(30):
            life = Life(self, dice)
            for _ in range(12):
                life.day()
            for what, many in life.seen.items():
                seen[what] = seen.get(what, 0) + many
        self.assertEqual(sorted(seen), ["affected", "clash", "first", "merged", "none", "not safe now", "rings"])
        self.assertGreater(min(seen.values()), 20)


if __name__ == "__main__":
    unittest.main()
