"""Promise 12.1: digests, manifests, and contents fetched from mirrors that may lie."""

import functools
import unittest

from lockwright.books import Book
from lockwright.building import Workshop
from lockwright.errors import NoManifest, NoMirrors, NotFetched
from lockwright.fetching import digest, fetched, fetched_all
from lockwright.fleets import Fleet
from lockwright.houses import House
from lockwright.questions import Question
from lockwright.running import Running
from lockwright.shelves import Shelf
from lockwright.tasks import Task
from samples import branching, chance, nested, odd_things, odd_tuples, raised, small_entry

PRIME = 2305843009213693951
APP, LIB = ("app", (1, 0, 0)), ("lib", (1, 2, 0))
TEXTS = {APP: "text of app\n", LIB: ""}
MANIFEST = {APP: digest(TEXTS[APP]), LIB: digest("")}
WHOLE = (("app", (1, 0, 0), ("f",)), ("lib", (1, 2, 0), ()))
ODD = odd_things() + odd_tuples() + [nested(40), branching(40)]


class Trouble(Exception):
    pass


def mirror(asked, tells, number=0):
    """A mirror that notes what it is asked and tells what stands in a dict."""
    def told(name, version):
        asked.append((number, name, version))
        return tells.get((name, version))
    return told


def never(name, version):
    raise AssertionError("asked")


def failing(name, version):
    raise Trouble(name)


class DigestTest(unittest.TestCase):
    def test_by_hand(self):
        self.assertEqual(digest(""), 7)
        self.assertEqual(digest("a"), 131 * 7 + 97)
        self.assertEqual(digest("ab"), 131 * (131 * 7 + 97) + 98)
        self.assertEqual(digest("ba"), 131 * (131 * 7 + 98) + 97)
        self.assertEqual(digest("\n"), 927)
        self.assertEqual(digest("a" * 8), (7 * 131 ** 8 + 97 * sum(131 ** k for k in range(8))) % PRIME)

    def test_long_texts(self):
        dice = chance(71)
        for many in [9, 50, 500, 40000]:
            text = "".join(dice.choice("ab \n~") for _ in range(many))
            total = 7 * pow(131, many, PRIME) + sum(ord(sign) * pow(131, many - 1 - at, PRIME) for at, sign in enumerate(text))
            self.assertEqual(digest(text), total % PRIME)
            self.assertIs(type(digest(text)), int)

    def test_one_sign_otherwise(self):
        text = "package app 1.0.0\n"
        told = {digest(text)}
        for at in range(len(text)):
            for code in range(32, 127):
                if chr(code) != text[at]:
                    told.add(digest(text[:at] + chr(code) + text[at + 1:]))
        self.assertEqual(len(told), 1 + 94 * (len(text) - 1) + 95)
        self.assertEqual(len({digest("a" * many) for many in range(300)}), 300)


class FetchedTest(unittest.TestCase):
    def test_the_first_that_tells_it(self):
        liar, none, good = {APP: "another text", LIB: " "}, {}, TEXTS
        for tells, number in [([good], 0), ([liar, good], 1), ([none, good], 1), ([none, liar, none, liar, good], 4), ([liar, good, good], 1), ([good, liar, none], 0)]:
            for pair in (APP, LIB):
                asked = []
                mirrors = tuple(mirror(asked, one, at) for at, one in enumerate(tells))
                self.assertEqual(fetched(mirrors, MANIFEST, *pair), (TEXTS[pair], number))
                self.assertEqual(asked, [(at, *pair) for at in range(number + 1)])

    def test_later_ones_are_not_asked(self):
        self.assertEqual(fetched((mirror([], TEXTS), never), MANIFEST, *APP), (TEXTS[APP], 0))

    def test_what_is_no_text(self):
        for thing in [thing for thing in ODD if not isinstance(thing, str)] + [[""], (TEXTS[APP],), TEXTS[APP].encode(), {APP: TEXTS[APP]}, MANIFEST[APP]]:
            self.assertEqual(fetched((lambda name, version: thing, mirror([], TEXTS)), MANIFEST, *APP), (TEXTS[APP], 1))
            self.assertEqual(raised(NotFetched, fetched, (lambda name, version: thing,), MANIFEST, *APP).pair, APP)
        for text in ["\u20ac", "\ud800", "\x00", "text of app", "text of app\n ", "Text of app\n"]:
            self.assertIsNotNone(raised(NotFetched, fetched, (lambda name, version: text,), MANIFEST, *APP))
            self.assertEqual(fetched((lambda name, version: text,), {APP: digest(text)}, *APP), (text, 0))

    def test_another_text_with_its_digest(self):
        """Only the digest tells texts apart."""
        self.assertEqual(fetched((lambda name, version: "x",), {APP: digest("x")}, *APP), ("x", 0))
        self.assertIsNotNone(raised(NotFetched, fetched, (lambda name, version: "x",), {APP: digest("x") + PRIME}, *APP))
        self.assertIsNotNone(raised(NotFetched, fetched, (lambda name, version: "x",), {APP: 0}, *APP))

    def test_no_mirrors(self):
        one = mirror([], TEXTS)
        self.assertEqual(fetched((mirror([], {}),) * 4 + (one,), MANIFEST, *APP), (TEXTS[APP], 4))
        wrong = [(), (one,) * 6, [one], [], {0: one}, one, None, (None,), (one, None), (1,), ("x",), (one, [one]), ((one,),), ({},), (b"x",), (True,), (ValueError("x"),)]
        book, question = Book(()), Question((), ())
        ours = [book, question, small_entry(), Task((), ()), House(book), Running(book), Shelf(), Workshop(never), Fleet(book, 1, ()), NoMirrors()]
        wrong += ours + [(one, thing) for thing in ours] + [(thing,) for thing in ours]
        for thing in ODD + wrong:
            self.assertIsNotNone(raised(NoMirrors, fetched, thing, MANIFEST, *APP))
            self.assertIsNotNone(raised(NoMirrors, fetched, thing, None, None, None))
            self.assertIsNotNone(raised(NoMirrors, fetched_all, thing, MANIFEST, WHOLE))
            self.assertIsNotNone(raised(NoMirrors, fetched_all, thing, {}, ()))

    def test_mirrors_that_are_no_functions(self):
        things = [
            range(3), slice(3), bytearray(b"a"), memoryview(b"a"), Ellipsis, NotImplemented, object(), iter([1]), {}.keys(), enumerate([]),
            [], {}.values(), {}.items(), iter(()), iter({}), reversed([]), zip(), map(len, []), (thing for thing in ()), property(),
            classmethod(never), KeyboardInterrupt(), SystemExit(), unittest, never.__code__, vars(Book), int | str, list[int], int, str, Book, NoMirrors,
        ]
        for thing in things:
            for mirrors in [(thing,), (never, thing), (thing, never), (failing, never, thing, never, never), (thing,) * 5]:
                self.assertIsNotNone(raised(NoMirrors, fetched, mirrors, {("a", (1, 0, 0)): 5}, "a", (1, 0, 0)), repr(thing))
                self.assertIsNotNone(raised(NoMirrors, fetched, mirrors, None, "a", (1, 0, 0)), repr(thing))
                self.assertIsNotNone(raised(NoMirrors, fetched_all, mirrors, {("a", (1, 0, 0)): 5}, (("a", (1, 0, 0), ()),)), repr(thing))
                self.assertIsNotNone(raised(NoMirrors, fetched_all, mirrors, {}, (("a", (1, 0, 0), ()),)), repr(thing))
                self.assertIsNotNone(raised(NoMirrors, fetched_all, mirrors, thing, ()), repr(thing))

    def test_functions_of_all_kinds(self):
        class Stranger:
            def told(self, name, version):
                return TEXTS[(name, version)]

            def __call__(self, name, version):
                return TEXTS[(name, version)]

            @staticmethod
            def apart(name, version):
                return TEXTS[(name, version)]

            @classmethod
            def of_class(cls, name, version):
                return TEXTS[(name, version)]

        one = mirror([], TEXTS)
        kinds = [
            one, lambda name, version: TEXTS[(name, version)], Stranger().told, Stranger(), Stranger().apart, Stranger.apart, Stranger().of_class,
            Stranger.of_class, staticmethod(one), functools.partial(one), functools.partial(Stranger.told, None), functools.lru_cache(one), one.__call__,
        ]
        for kind in kinds:
            self.assertEqual(fetched((kind,), MANIFEST, *APP), (TEXTS[APP], 0))
            self.assertEqual(fetched((mirror([], {}), kind, never), MANIFEST, *APP), (TEXTS[APP], 1))
            self.assertEqual(fetched_all((kind, never), MANIFEST, WHOLE), TEXTS)
        # Python's own functions are functions, too: this one tells a version, which is no text.
        self.assertEqual(fetched(({}.get, one), MANIFEST, *APP), (TEXTS[APP], 1))

    def test_type_errors_of_functions_go_on(self):
        def told(name, version):
            return None + 1
        for wrong in [told, len, lambda: "", lambda name: "", "".join, [].append]:
            with self.assertRaises(TypeError):
                fetched((wrong, never), MANIFEST, *APP)
            with self.assertRaises(TypeError):
                fetched_all((mirror([], {}), wrong), MANIFEST, WHOLE)

    def test_no_manifest(self):
        wrong = [
            [], [(APP, 1)], None, {"app": 1}, {APP: None}, {APP: -1}, {APP: True}, {APP: "1"}, {APP: (1,)}, {**MANIFEST, "x": 1}, {**MANIFEST, ("x", (1, 0)): 1},
            {**MANIFEST, ("X", (1, 0, 0)): 1}, {**MANIFEST, ("x", (1, 0, 0), ()): 1}, {**MANIFEST, ("x", (True, 0, 0)): 1}, {**MANIFEST, ("x", (1, 0, 0)): False},
            {**MANIFEST, ("x", (1, 0, 1000001)): 1}, {("app", (True, 0, 0)): MANIFEST[APP], LIB: 7}, {**MANIFEST, nested(38): 1}, {**MANIFEST, ("x", (1, 0, 0)): [7]},
        ]
        for thing in ODD + wrong:
            if thing != {}:
                self.assertIsNotNone(raised(NoManifest, fetched, (never,), thing, *APP), thing)
                self.assertIsNotNone(raised(NoManifest, fetched_all, (never,), thing, WHOLE), thing)
                self.assertIsNotNone(raised(NoManifest, fetched_all, (never,), thing, ()), thing)
        for name, version in [("app", (1, 0, 1)), ("zoo", (1, 0, 0)), ("lib", (1, 0, 0)), ("app", (True, 0, 0)), ("app", [1, 0, 0]), (["app"], (1, 0, 0)), (None, None), ("app", "1.0.0")]:
            self.assertIsNotNone(raised(NoManifest, fetched, (never,), MANIFEST, name, version))
        for thing in ODD:
            self.assertIsNotNone(raised(NoManifest, fetched, (never,), MANIFEST, thing, (1, 0, 0)))
            self.assertIsNotNone(raised(NoManifest, fetched, (never,), MANIFEST, "app", thing))
        self.assertEqual(fetched((mirror([], {APP: "x"}),), {APP: digest("x"), ("zoo", (1000000, 0, 0)): 10 ** 18}, *APP), ("x", 0))

    def test_errors_of_mirrors_go_on(self):
        with self.assertRaises(Trouble):
            fetched((failing, mirror([], TEXTS)), MANIFEST, *APP)
        with self.assertRaises(Trouble):
            fetched((mirror([], {}), failing), MANIFEST, *APP)
        with self.assertRaises(Trouble):
            fetched_all((failing,), MANIFEST, WHOLE)
        self.assertEqual(fetched((mirror([], TEXTS), failing), MANIFEST, *APP), (TEXTS[APP], 0))
        self.assertEqual(fetched_all((failing,), MANIFEST, ()), {})
        for kind in [KeyError, ValueError, IndexError, StopIteration, NotFetched]:
            def told(name, version):
                raise kind("x")
            with self.assertRaises(kind):
                fetched((told, mirror([], TEXTS)), MANIFEST, *APP)


class FetchedAllTest(unittest.TestCase):
    def test_by_hand(self):
        asked = []
        told = fetched_all((mirror(asked, {LIB: ""}), mirror(asked, TEXTS, 1)), MANIFEST, WHOLE)
        self.assertEqual(list(told.items()), [(APP, TEXTS[APP]), (LIB, "")])
        self.assertIs(type(told), dict)
        self.assertEqual(asked, [(0, *APP), (1, *APP), (0, *LIB)])
        self.assertEqual(fetched_all((never,), {}, ()), {})
        self.assertEqual(fetched_all((never,), MANIFEST, ()), {})

    def test_the_triples_order(self):
        names = ["b", "c", "d", "x"]
        whole = tuple((name, (k, 0, 0), ()) for k, name in enumerate(names))
        texts = {triple[:2]: triple[0] * 3 for triple in reversed(whole)}
        manifest = {pair: digest(text) for pair, text in texts.items()}
        self.assertEqual(list(fetched_all((mirror([], texts),), manifest, whole)), [triple[:2] for triple in whole])

    def test_errors_in_order(self):
        # A triple that the manifest has not goes ahead of all asking.
        self.assertIsNotNone(raised(NoManifest, fetched_all, (never,), {APP: 1}, WHOLE))
        self.assertIsNotNone(raised(NoManifest, fetched_all, (failing,), {LIB: 1}, WHOLE))
        asked = []
        error = raised(NotFetched, fetched_all, (mirror(asked, {APP: TEXTS[APP], LIB: "lie"}), mirror(asked, {}, 1)), MANIFEST, WHOLE)
        self.assertEqual(error.pair, LIB)
        self.assertEqual(asked, [(0, *APP), (0, *LIB), (1, *LIB)])
        self.assertEqual(raised(NotFetched, fetched_all, (mirror([], {}),), MANIFEST, WHOLE).pair, APP)

    def test_a_mirror_that_changes_the_manifest(self):
        manifest = dict(MANIFEST)
        def told(name, version):
            manifest.clear()
            return TEXTS[(name, version)]
        self.assertEqual(fetched_all((told,), manifest, WHOLE), TEXTS)

    def test_nothing_is_changed(self):
        manifest = dict(MANIFEST)
        mirrors = (mirror([], TEXTS),)
        first = fetched_all(mirrors, manifest, WHOLE)
        first.clear()
        self.assertEqual(fetched_all(mirrors, manifest, WHOLE), TEXTS)
        self.assertEqual(manifest, MANIFEST)

    def test_drawn_mirrors(self):
        """The eighth step: whatever mirrors tell, a text has its digest and comes from the first that tells one so."""
        dice = chance(72)
        ends = {True: 0, False: 0}
        for _ in range(400):
            whole = tuple((name, (dice.randint(0, 2), 0, 0), ()) for name in "abcd" if dice.random() < 0.7)
            texts = {triple[:2]: dice.choice(["", "x", "xy", "\n"]) for triple in whole}
            manifest = {pair: digest(text) for pair, text in texts.items()}
            tells = [{pair: dice.choice([text, text, None, "lie", 7, text + " ", b"x", "x"]) for pair, text in texts.items()} for _ in range(dice.randint(1, 5))]
            asked, wanted, wrong = [], [], None
            for triple in whole:
                pair = triple[:2]
                for at, one in enumerate(tells):
                    if wrong is None:
                        wanted.append((at, *pair))
                        if isinstance(one[pair], str) and one[pair] == texts[pair]:
                            break
                else:
                    wrong = wrong or pair
            mirrors = tuple(mirror(asked, one, at) for at, one in enumerate(tells))
            if wrong is None:
                self.assertEqual(fetched_all(mirrors, manifest, whole), texts)
            else:
                self.assertEqual(raised(NotFetched, fetched_all, mirrors, manifest, whole).pair, wrong)
            self.assertEqual(asked, wanted)
            ends[wrong is None] += 1
        self.assertGreater(min(ends.values()), 50)


if __name__ == "__main__":
    unittest.main()
