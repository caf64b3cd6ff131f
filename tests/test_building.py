"""Promises 13.1 and 13.2: installations built in order by a recipe, and workshops that keep what was built."""

import unittest

from books import chain_book, numbered
from lockwright.booktexts import read_book
from lockwright.building import Workshop, built
from lockwright.errors import NoBuild, NoContents, NotSafe, Ringed
from moved import needs_in, some_safe_worlds, told_knots, truth_of
from samples import branching, chance, nested, odd_things, odd_tuples, raised

BOOK = read_book(
    "package app 1.0.0\n  feature gui\n  needs lib (*)\n  needs sys (*)\n  needs lib (>=1.0.0)\n  if gui needs kit (*)\n  if gui needs lib (*)\n"
    "package kit 1.0.0\n  needs zip (*)\npackage lib 1.0.0\n  needs zip (*)\npackage lib 2.0.0\npackage sys 1.0.0\npackage zip 1.0.0\n"
)
RINGS = read_book(
    "package a 1.0.0\n  needs z (*)\npackage b 1.0.0\n  needs d (*)\npackage c 1.0.0\n  feature f\n  if f needs e (*)\npackage d 1.0.0\n  needs b (*)\n"
    "package e 1.0.0\n  needs c (*)\npackage z 1.0.0\n"
)
APP, GUI, KIT = ("app", (1, 0, 0), ()), ("app", (1, 0, 0), ("gui",)), ("kit", (1, 0, 0), ())
LIB, NEW, SYS, ZIP = ("lib", (1, 0, 0), ()), ("lib", (2, 0, 0), ()), ("sys", (1, 0, 0), ()), ("zip", (1, 0, 0), ())
WHOLE = (GUI, KIT, LIB, SYS, ZIP)
SOURCES = {(name, version): f"source of {name}" for name, version, _ in WHOLE + (NEW,)}
ODD = odd_things() + odd_tuples() + [nested(40), branching(40)]


class Trouble(Exception):
    pass


def noting(calls, wrong=None):
    """A recipe that notes its calls, and does something else for one name."""
    def recipe(source, triple, parts):
        calls.append((source, triple, parts))
        if wrong is not None and triple[0] == wrong[0]:
            return wrong[1]()
        return f"<{source} {triple[0]} {' '.join(triple[2])} {' '.join(text for _, text in parts)}>"
    return recipe


def never(source, triple, parts):
    raise AssertionError("called")


def trouble():
    raise Trouble("here")


def told_calls(book, installation, sources):
    """The calls for an installation without rings, and what they lead to, by what the document says."""
    pairs = needs_in(book, installation)
    texts, calls = {}, []
    left = {triple[0]: triple for triple in installation}
    while left:
        name = min(one for one in left if all(other in texts for again, other in pairs if again == one))
        triple = left.pop(name)
        parts = tuple((other, texts[other]) for other in sorted({other for again, other in pairs if again == name}))
        calls.append((sources[triple[:2]], triple, parts))
        texts[name] = noting([])(*calls[-1])
    return calls, texts


def sources_of(book):
    return {(one.name, one.version): f"{one.name}{one.version[0]}" for one in book.entries}


class BuiltTest(unittest.TestCase):
    def test_by_hand(self):
        calls = []
        told = built(BOOK, WHOLE, SOURCES, noting(calls))
        self.assertEqual([triple for _, triple, _ in calls], [SYS, ZIP, KIT, LIB, GUI])
        zipped = "<source of zip zip  >"
        self.assertEqual(calls[0], ("source of sys", SYS, ()))
        self.assertEqual(calls[2], ("source of kit", KIT, (("zip", zipped),)))
        self.assertEqual(calls[3], ("source of lib", LIB, (("zip", zipped),)))
        self.assertEqual(calls[4], ("source of app", GUI, (("kit", told["kit"]), ("lib", told["lib"]), ("sys", told["sys"]))))
        self.assertEqual(told["app"], f"<source of app app gui {told['kit']} {told['lib']} {told['sys']}>")
        self.assertEqual((type(told), list(told)), (dict, ["sys", "zip", "kit", "lib", "app"]))

    def test_needs_that_do_not_count(self):
        calls = []
        built(BOOK, (APP, LIB, SYS, ZIP), SOURCES, noting(calls))
        self.assertEqual([name for name, _ in calls[-1][2]], ["lib", "sys"])
        calls.clear()
        built(BOOK, (APP, KIT, NEW, SYS, ZIP), SOURCES, noting(calls))
        self.assertEqual([triple[0] for _, triple, _ in calls], ["lib", "sys", "app", "zip", "kit"])
        self.assertEqual(built(BOOK, (), {}, never), {})

    def test_long_chains(self):
        for turned in (False, True):
            book, _ = chain_book(80, majors=(1,), features=(), turned=turned)
            whole = tuple((numbered(k), (1, 0, 0), ()) for k in range(80))
            calls = []
            told = built(book, whole, {triple[:2]: triple[0] for triple in whole}, lambda source, triple, parts: calls.append(source) or source + "".join(text for _, text in parts)[:5])
            self.assertEqual(calls, [numbered(k if turned else 79 - k) for k in range(80)])
            self.assertEqual(len(told), 80)

    def test_not_safe(self):
        wrong = [[], list(WHOLE), (GUI,), (LIB, APP), (APP, LIB, SYS, ("zip", (2, 0, 0), ())), (("kit", (1, 0, 0), ("f",)), ZIP), (("kit", (True, 0, 0), ()), ZIP), "app"]
        for thing in ODD + wrong:
            if thing != ():
                self.assertIsNotNone(raised(NotSafe, built, BOOK, thing, SOURCES, never))
                self.assertIsNotNone(raised(NotSafe, built, BOOK, thing, None, never))
                self.assertIsNotNone(raised(NotSafe, Workshop(never).build, BOOK, thing, None))

    def test_no_contents(self):
        wrong = [{}, [], None, {LIB[:2]: "x"}, {**SOURCES, ("zip", (1, 0, 0)): None}, {**SOURCES, ("zip", (1, 0, 0)): b"x"}, list(SOURCES.items()), {name: "x" for name in "app kit lib sys zip".split()},
                 {**{pair: SOURCES[pair] for pair in SOURCES if pair[0] != "zip"}, ("zip", (True, 0, 0)): "x"}]
        for thing in ODD + wrong:
            self.assertIsNotNone(raised(NoContents, built, BOOK, WHOLE, thing, never), thing)
            self.assertIsNotNone(raised(NoContents, Workshop(never).build, BOOK, WHOLE, thing), thing)
            if not isinstance(thing, dict):
                self.assertIsNotNone(raised(NoContents, built, BOOK, (), thing, never), thing)
        self.assertEqual(built(BOOK, (ZIP,), {ZIP[:2]: "", "x": None, nested(38): 1, ("zip", (2, 0, 0)): 7}, noting([])), {"zip": "< zip  >"})

    def test_ringed(self):
        names = "abcdez"
        whole = tuple((name, (1, 0, 0), ("f",) if name == "c" else ()) for name in names)
        sources = {triple[:2]: "" for triple in whole}
        self.assertEqual(raised(Ringed, built, RINGS, whole, sources, never).names, ("b", "d"))
        self.assertEqual(raised(Ringed, built, RINGS, tuple(triple for triple in whole if triple[0] not in "bd"), sources, never).names, ("c", "e"))
        without = tuple((name, (1, 0, 0), ()) for name in "acez")
        calls = []
        built(RINGS, without, sources, noting(calls))
        self.assertEqual([triple[0] for _, triple, _ in calls], ["c", "e", "z", "a"])
        self.assertIsNotNone(raised(NoContents, built, RINGS, whole, {}, never))
        self.assertIsNotNone(raised(Ringed, Workshop(never).build, RINGS, whole, sources))

    def test_no_build(self):
        for thing in [thing for thing in ODD if not isinstance(thing, str)] + [["x"], ("x",), b"x"]:
            calls = []
            error = raised(NoBuild, built, BOOK, WHOLE, SOURCES, noting(calls, ("kit", lambda: thing)))
            self.assertEqual(error.name, "kit")
            self.assertEqual([triple[0] for _, triple, _ in calls], ["sys", "zip", "kit"])
        self.assertEqual(built(BOOK, (ZIP,), SOURCES, lambda source, triple, parts: ""), {"zip": ""})
        self.assertEqual(built(BOOK, (ZIP,), SOURCES, lambda source, triple, parts: "\u20ac"), {"zip": "\u20ac"})

    def test_errors_of_recipes_go_on(self):
        with self.assertRaises(Trouble):
            built(BOOK, WHOLE, SOURCES, noting([], ("kit", trouble)))
        for kind in [KeyError, ValueError, StopIteration, NoBuild, Ringed]:
            def recipe(source, triple, parts):
                raise kind("x")
            with self.assertRaises(kind):
                built(BOOK, WHOLE, SOURCES, recipe)

    def test_nothing_is_changed(self):
        sources = dict(SOURCES)
        told = built(BOOK, WHOLE, sources, noting([]))
        self.assertEqual(built(BOOK, WHOLE, sources, noting([])), told)
        told.clear()
        self.assertEqual(sources, SOURCES)
        self.assertEqual(len(built(BOOK, WHOLE, sources, noting([]))), 5)

    def test_a_recipe_that_changes_sources(self):
        sources = dict(SOURCES)
        def recipe(source, triple, parts):
            sources.clear()
            return source
        self.assertEqual(built(BOOK, WHOLE, sources, recipe)["app"], "source of app")

    def test_drawn(self):
        dice = chance(81)
        seen = {"rings": 0, "built": 0}
        for book, safe in some_safe_worlds(dice, 60, 300):
            sources = sources_of(book)
            for thing in dice.sample(safe, min(8, len(safe))):
                rings = [lot for lot in told_knots(book, thing) if len(lot) > 1]
                if rings:
                    self.assertEqual(raised(Ringed, built, book, thing, sources, never).names, rings[0])
                    seen["rings"] += 1
                    continue
                calls, texts = told_calls(book, thing, sources)
                asked = []
                told = built(book, thing, sources, noting(asked))
                self.assertEqual((asked, told), (calls, texts))
                seen["built"] += len(thing) > 1
        self.assertGreater(seen["rings"], 5)
        self.assertGreater(seen["built"], 100)


class WorkshopTest(unittest.TestCase):
    def test_kept_builds(self):
        calls = []
        shop = Workshop(noting(calls))
        self.assertEqual(shop.made(), ())
        told = shop.build(BOOK, WHOLE, SOURCES)
        self.assertEqual(told, built(BOOK, WHOLE, SOURCES, noting([])))
        self.assertEqual(shop.made(), (SYS, ZIP, KIT, LIB, GUI))
        self.assertEqual(shop.build(BOOK, WHOLE, dict(SOURCES)), told)
        self.assertEqual((len(calls), shop.made()), (5, (SYS, ZIP, KIT, LIB, GUI)))
        # Another version of lib: what needs it is built anew, and nothing else.
        other = (GUI, KIT, NEW, SYS, ZIP)
        self.assertEqual(shop.build(BOOK, other, SOURCES), built(BOOK, other, SOURCES, noting([])))
        self.assertEqual(shop.made(), (SYS, ZIP, KIT, LIB, GUI, NEW, GUI))
        self.assertEqual(shop.build(BOOK, WHOLE, SOURCES), told)
        self.assertEqual(len(calls), 7)

    def test_another_source(self):
        shop = Workshop(noting([]))
        shop.build(BOOK, WHOLE, SOURCES)
        later = {**SOURCES, ("zip", (1, 0, 0)): "another source"}
        self.assertEqual(shop.build(BOOK, WHOLE, later), built(BOOK, WHOLE, later, noting([])))
        self.assertEqual(shop.made(), (SYS, ZIP, KIT, LIB, GUI, ZIP, KIT, LIB, GUI))
        # Where the text that comes out is the same, what hangs on it is not built anew.
        shop = Workshop(lambda source, triple, parts: "same")
        shop.build(BOOK, WHOLE, SOURCES)
        shop.build(BOOK, WHOLE, later)
        self.assertEqual(shop.made(), (SYS, ZIP, KIT, LIB, GUI, ZIP))

    def test_other_features_and_another_book(self):
        calls = []
        shop = Workshop(noting(calls))
        shop.build(BOOK, (APP, LIB, SYS, ZIP), SOURCES)
        shop.build(BOOK, WHOLE, SOURCES)
        self.assertEqual(shop.made(), (SYS, ZIP, LIB, APP, KIT, GUI))
        other = read_book("package sys 1.0.0\npackage zip 1.0.0\n  needs sys (*)\n")
        told = shop.build(other, (SYS, ZIP), SOURCES)
        self.assertEqual(calls[-1], ("source of zip", ZIP, (("sys", told["sys"]),)))
        self.assertEqual(shop.made(), (SYS, ZIP, LIB, APP, KIT, GUI, ZIP))
        shop.build(read_book("package sys 1.0.0\n  bars lib (*)\n"), (SYS,), SOURCES)
        self.assertEqual(len(calls), 7)

    def test_errors_leave_what_was_told(self):
        state = {"wrong": lambda: None}
        calls = []
        def recipe(source, triple, parts):
            return noting(calls, ("kit", lambda: state["wrong"]()))(source, triple, parts)
        shop = Workshop(recipe)
        self.assertEqual(raised(NoBuild, shop.build, BOOK, WHOLE, SOURCES).name, "kit")
        self.assertEqual((shop.made(), len(calls)), ((SYS, ZIP), 3))
        self.assertEqual(raised(NoBuild, shop.build, BOOK, WHOLE, SOURCES).name, "kit")
        self.assertEqual((shop.made(), len(calls)), ((SYS, ZIP), 4))
        state["wrong"] = trouble
        with self.assertRaises(Trouble):
            shop.build(BOOK, WHOLE, SOURCES)
        self.assertEqual((shop.made(), len(calls)), ((SYS, ZIP), 5))
        state["wrong"] = lambda: "kit at last"
        self.assertEqual(shop.build(BOOK, WHOLE, SOURCES)["kit"], "kit at last")
        self.assertEqual((shop.made(), len(calls)), ((SYS, ZIP, KIT, LIB, GUI), 8))
        for kind, thing, sources in [(NotSafe, (GUI,), SOURCES), (NoContents, WHOLE, {})]:
            self.assertIsNotNone(raised(kind, shop.build, BOOK, thing, sources))
        self.assertEqual((shop.made(), len(calls)), ((SYS, ZIP, KIT, LIB, GUI), 8))

    def test_two_workshops(self):
        one, other = Workshop(noting([])), Workshop(lambda source, triple, parts: "x")
        one.build(BOOK, (ZIP,), SOURCES)
        self.assertEqual(other.made(), ())
        self.assertEqual(other.build(BOOK, (ZIP,), SOURCES), {"zip": "x"})
        self.assertEqual(one.build(BOOK, (ZIP,), SOURCES), {"zip": "<source of zip zip  >"})
        self.assertEqual((one.made(), other.made()), ((ZIP,), (ZIP,)))

    def test_what_was_told_may_be_changed(self):
        shop = Workshop(noting([]))
        told = shop.build(BOOK, WHOLE, SOURCES)
        told["zip"] = "bent"
        self.assertEqual(shop.build(BOOK, WHOLE, SOURCES), built(BOOK, WHOLE, SOURCES, noting([])))
        self.assertIsInstance(shop.made(), tuple)

    def test_drawn_lives(self):
        """The ninth step: each build is what built tells, and no call is made twice."""
        dice = chance(82)
        calls = []
        shop = Workshop(noting(calls))
        many = 0
        for book, safe in some_safe_worlds(dice, 40, 300):
            for thing in dice.sample(safe, min(6, len(safe))):
                if any(len(lot) > 1 for lot in told_knots(book, thing)):
                    continue
                self.assertEqual(truth_of(book, thing).faults(), [])
                sources = {pair: dice.choice([text, text + "x"]) for pair, text in sources_of(book).items()}
                asked, texts = told_calls(book, thing, sources)
                before = list(calls)
                self.assertEqual(shop.build(book, thing, sources), texts)
                self.assertEqual(calls, before + [call for call in asked if call not in before])
                self.assertEqual(shop.made(), tuple(triple for _, triple, _ in calls))
                many += len(asked) - (len(calls) - len(before))
        self.assertEqual(len(set(calls)), len(calls))
        self.assertGreater(many, 20)


if __name__ == "__main__":
    unittest.main()
