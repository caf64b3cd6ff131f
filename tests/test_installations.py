"""Promises 3.2 and 3.4: right installations, why a package is there, and cores."""

import unittest

from lockwright.books import Book
from lockwright.booktexts import read_book
from lockwright.errors import NotClosed, NotRight, NotThere
from lockwright.installations import core, fault, is_right, way_to
from lockwright.questions import Question, read_question
from samples import branching, chance, nested, odd_things, odd_tuples, raised
from worlds import Truth, all_installations, some_world

BOOK = read_book("""package app 1.0.0
  feature gui turns log
  feature log
  feature net
  needs lib (^1.0.0)
  if gui needs kit (*) with fast
  if net needs lib (>=1.2.0) with tls
  bars old (<2.0.0)
package app 2.0.0
  needs lib (^2.0.0)
package aux 1.0.0
package kit 1.0.0
  feature fast
  feature slow
  if slow needs aux (*)
package lib 1.0.0
package lib 1.2.0
  feature tls
package lib 2.0.0
package old 1.0.0
package old 2.0.0
""")
WISH = read_question("wish app (*)\n")
GUI = read_question("wish lib (*)\nwish app (^1.0.0) with gui\n")

APP, LIB = ("app", (1, 0, 0), ()), ("lib", (1, 0, 0), ())
APP_GUI = ("app", (1, 0, 0), ("gui", "log"))
KIT = ("kit", (1, 0, 0), ("fast",))


class FaultTest(unittest.TestCase):
    def test_right(self):
        for question, thing in [
            (WISH, (APP, LIB)), (WISH, (APP, ("lib", (1, 2, 0), ()))), (WISH, (("app", (2, 0, 0), ()), ("lib", (2, 0, 0), ()))),
            (GUI, (APP_GUI, KIT, LIB)), (Question((), ()), ()),
            (read_question("wish app (*) with net\n"), (("app", (1, 0, 0), ("net",)), ("lib", (1, 2, 0), ("tls",)))),
            (read_question("wish app (*)\nwish old (*)\n"), (APP, LIB, ("old", (2, 0, 0), ()))),
            (read_question("wish lib (*)\nwish lib (^1.0.0)\nlock lib 2.0.0\n"), (LIB,)),
        ]:
            with self.subTest(thing=thing):
                self.assertIsNone(fault(BOOK, question, thing))
                self.assertIs(is_right(BOOK, question, thing), True)

    def test_form(self):
        for thing in [
            None, [], [APP, LIB], (list(APP), LIB), (APP[:2], LIB), (APP + ((),), LIB), (LIB, APP), (APP, APP), (APP, APP_GUI),
            (("app", [1, 0, 0], ()), LIB), (("app", (1, 0), ()), LIB), (("app", (True, 0, 0), ()), LIB), (("app", (1, 0, 0), []), LIB),
            (("app", (1, 0, 0), ("log", "gui")), LIB), (("app", (1, 0, 0), ("log", "log")), LIB), (("app", (1, 0, 0), "log"), LIB),
            (("app", (1, 0, 0), (1,)), LIB), (("App", (1, 0, 0), ()), LIB), (("", (1, 0, 0), ()), LIB), ((None, (1, 0, 0), ()), LIB),
            (APP, LIB, None), APP, {"app": APP}, "app", (("app", (1000001, 0, 0), ()), LIB), (("app", None, ()), LIB), (("app", (1, 0, 0), None), LIB),
        ]:
            with self.subTest(thing=thing):
                self.assertEqual(fault(BOOK, WISH, thing), ("form",))
                self.assertIs(is_right(BOOK, WISH, thing), False)
        for thing in odd_things() + odd_tuples() + [nested(40), branching(40)]:
            for whole in [thing, (thing,), (thing, LIB), ((thing, (1, 0, 0), ()),), (("app", thing, ()),), (("app", (1, 0, 0), thing),)]:
                self.assertEqual(fault(BOOK, WISH, whole), ("form",))
                self.assertIs(is_right(BOOK, WISH, whole), False)

    def test_entry(self):
        for thing, name in [
            ((("app", (3, 0, 0), ()), LIB), "app"), ((APP, ("lib", (9, 0, 0), ())), "lib"), ((("none", (1, 0, 0), ()),), "none"),
            ((("app", (1, 0, 0), ("x",)), ("lib", (1, 0, 1), ())), "lib"), ((("app", (3, 0, 0), ()), ("lib", (9, 0, 0), ())), "app"),
            ((("app", (1000000, 0, 0), ()),), "app"),
        ]:
            self.assertEqual(fault(BOOK, WISH, thing), ("entry", name))
            self.assertIs(is_right(BOOK, WISH, thing), False)

    def test_feature(self):
        for thing, name in [
            ((("app", (1, 0, 0), ("x",)), LIB), "app"), ((("app", (1, 0, 0), ("gui",)), KIT, LIB), "app"),
            ((APP, ("lib", (1, 0, 0), ("tls",))), "lib"), ((("app", (1, 0, 0), ("gui",)), ("lib", (1, 0, 0), ("tls",))), "app"),
            ((("app", (2, 0, 0), ("log",)),), "app"), ((("kit", (1, 0, 0), ("fast", "x")),), "kit"),
        ]:
            self.assertEqual(fault(BOOK, WISH, thing), ("feature", name))

    def test_wish(self):
        for question, thing, at in [
            (WISH, (), 0), (WISH, (LIB,), 0), (GUI, (APP, LIB), 1), (GUI, (APP_GUI,), 0), (GUI, (("app", (2, 0, 0), ()), LIB), 1), (GUI, (), 0),
            (read_question("wish app (*)\nwish app (<1.0.0)\n"), (APP, LIB), 1), (read_question("wish gone (*)\n"), (), 0),
            (read_question("wish app (<0.0.0)\n"), (APP, LIB), 0), (read_question("wish app (*) with gone\n"), (APP, LIB), 0),
            (read_question("wish app (*) with gui net\n"), (APP_GUI, KIT, LIB), 0),
        ]:
            self.assertEqual(fault(BOOK, question, thing), ("wish", at))

    def test_need(self):
        for question, thing, name, at in [
            (WISH, (APP,), "app", 0), (WISH, (APP, ("lib", (2, 0, 0), ())), "app", 0), (GUI, (APP_GUI, LIB), "app", 1),
            (GUI, (APP_GUI, ("kit", (1, 0, 0), ()), LIB), "app", 1), (GUI, (APP_GUI, ("kit", (1, 0, 0), ("fast", "slow")), LIB), "kit", 0),
            (WISH, (("app", (1, 0, 0), ("net",)), LIB), "app", 2), (WISH, (("app", (1, 0, 0), ("net",)), ("lib", (1, 2, 0), ())), "app", 2),
            (WISH, (("app", (2, 0, 0), ()), ("kit", (1, 0, 0), ("slow",))), "app", 0), (WISH, (APP, ("kit", (1, 0, 0), ("slow",))), "app", 0),
        ]:
            self.assertEqual(fault(BOOK, question, thing), ("need", name, at))

    def test_bar(self):
        book = read_book("package a 1.0.0\n  bars c (2.0.0)\n  bars b (1.0.0)\npackage b 1.0.0\n  bars a (1.0.0)\npackage b 2.0.0\npackage c 1.0.0\n")
        both = (("a", (1, 0, 0), ()), ("b", (1, 0, 0), ()))
        self.assertEqual(fault(book, read_question("wish a (*)\nwish b (*)\n"), both), ("bar", "a", 1))
        self.assertEqual(fault(BOOK, read_question("wish app (*)\nwish old (*)\n"), (APP, LIB, ("old", (1, 0, 0), ()))), ("bar", "app", 0))
        other = read_book("package a 1.0.0\npackage b 1.0.0\n  bars a (1.0.0)\n")
        self.assertEqual(fault(other, read_question("wish a (*)\n"), both), ("bar", "b", 0))
        self.assertIsNone(fault(book, read_question("wish a (*)\nwish b (*)\n"), (("a", (1, 0, 0), ()), ("b", (2, 0, 0), ()))))

    def test_unwanted(self):
        for question, thing, name in [
            (WISH, (APP, KIT, LIB), "kit"), (WISH, (("app", (1, 0, 0), ("log",)), LIB), "app"), (WISH, (APP, ("lib", (1, 2, 0), ("tls",))), "lib"),
            (WISH, (("app", (1, 0, 0), ("log",)), LIB, ("old", (2, 0, 0), ())), "old"), (Question((), ()), (LIB,), "lib"),
            (WISH, (("app", (1, 0, 0), ("log",)), ("lib", (1, 2, 0), ("tls",))), "app"), (WISH, (APP_GUI, KIT, LIB), "kit"),
            (GUI, (APP_GUI, ("aux", (1, 0, 0), ()), ("kit", (1, 0, 0), ("fast", "slow")), LIB), "aux"),
            (GUI, (APP_GUI, KIT, ("lib", (1, 2, 0), ("tls",))), "lib"),
        ]:
            with self.subTest(thing=thing):
                self.assertEqual(fault(BOOK, question, thing), ("unwanted", name))

    def test_a_ring_does_not_want_itself(self):
        book = read_book("package a 1.0.0\npackage b 1.0.0\n  needs c (*)\npackage c 1.0.0\n  needs b (*)\n")
        ring = (("a", (1, 0, 0), ()), ("b", (1, 0, 0), ()), ("c", (1, 0, 0), ()))
        self.assertEqual(fault(book, read_question("wish a (*)\n"), ring), ("unwanted", "b"))
        self.assertIsNone(fault(book, read_question("wish a (*)\nwish c (*)\n"), ring))

    def test_features_come_to_from_several_sides(self):
        book = read_book(
            "package a 1.0.0\n  needs c (*) with f\npackage b 1.0.0\n  needs c (*) with g\n"
            "package c 1.0.0\n  feature f\n  feature g turns h\n  feature h\n  if h needs d (*)\n  if f needs a (*)\npackage d 1.0.0\n"
        )
        c = ("c", (1, 0, 0), ("f", "g", "h"))
        whole = (("a", (1, 0, 0), ()), ("b", (1, 0, 0), ()), c, ("d", (1, 0, 0), ()))
        for text in ["wish a (*)\nwish b (*)\n", "wish b (*)\nwish a (*)\n", "wish b (*)\nwish c (*) with f\n", "wish c (*)\nwish b (*)\nwish a (*)\n"]:
            self.assertIsNone(fault(book, read_question(text), whole))
            self.assertEqual(core(book, read_question(text), whole), whole)
        self.assertEqual(fault(book, read_question("wish a (*)\n"), whole), ("unwanted", "b"))
        self.assertEqual(fault(book, read_question("wish c (*) with f h\nwish b (<0.0.0)\n"), whole), ("wish", 1))
        self.assertEqual(core(book, read_question("wish c (*) with f h\n"), whole), (whole[0], ("c", (1, 0, 0), ("f", "h")), whole[3]))

    def test_the_order_of_kinds(self):
        question = read_question("wish a (2.0.0)\n")
        book = read_book("package a 1.0.0\n  feature f\n  needs c (*)\n  bars b (*)\npackage b 1.0.0\n  feature f turns g\n  feature g\n")
        a, b = ("a", (1, 0, 0), ()), ("b", (1, 0, 0), ())
        self.assertEqual(fault(book, question, (a, ("b", (1, 0, 0), ("f",)), ("c", (1, 0, 0), ()))), ("entry", "c"))
        self.assertEqual(fault(book, question, (a, ("b", (1, 0, 0), ("f",)))), ("feature", "b"))
        self.assertEqual(fault(book, question, (a, b)), ("wish", 0))
        self.assertEqual(fault(book, read_question("wish a (1.0.0)\n"), (a, b)), ("need", "a", 0))
        book = read_book("package a 1.0.0\n  bars b (*)\npackage b 1.0.0\n")
        self.assertEqual(fault(book, read_question("wish a (*)\n"), (a, b)), ("bar", "a", 0))

    def test_needs_of_what_is_not_on(self):
        self.assertIsNone(fault(BOOK, WISH, (APP, LIB)))
        self.assertIsNone(fault(BOOK, read_question("wish app (*) with log\n"), (("app", (1, 0, 0), ("log",)), LIB)))

    def test_long_installations(self):
        names = sorted(a + b + c for a in "abcdefghijklmnopqrstuvwxyz" for b in "abcdefgh" for c in "abcdefgh")
        self.assertEqual(fault(BOOK, WISH, tuple((name, (1, 0, 0), ()) for name in names)), ("entry", names[0]))
        entries = tuple(f"package {name} 1.0.0\n" + "".join(f"  needs {names[k + 1]} (*)\n" for _ in range(8) if k < 199)
                        for k, name in enumerate(names[:200]))
        book = read_book("".join(entries))
        self.assertIsNone(fault(book, read_question(f"wish {names[0]} (*)\n"), tuple((name, (1, 0, 0), ()) for name in names[:200])))


class WayTest(unittest.TestCase):
    def test_ways(self):
        whole = (APP_GUI, KIT, LIB)
        self.assertEqual(way_to(BOOK, WISH, (APP, LIB), "lib"), (0, "app", "lib"))
        self.assertEqual(way_to(BOOK, WISH, (APP, LIB), "app"), (0, "app"))
        self.assertEqual(way_to(BOOK, GUI, whole, "lib"), (0, "lib"))
        self.assertEqual(way_to(BOOK, GUI, whole, "app"), (1, "app"))
        self.assertEqual(way_to(BOOK, GUI, whole, "kit"), (1, "app", "kit"))
        twice = read_question("wish app (*)\nwish app (^1.0.0)\n")
        self.assertEqual(way_to(BOOK, twice, (APP, LIB), "lib"), (0, "app", "lib"))

    def test_shorter_goes_ahead_of_lesser(self):
        book = read_book("package a 1.0.0\n  needs b (*)\npackage b 1.0.0\n  needs d (*)\npackage c 1.0.0\n  needs d (*)\npackage d 1.0.0\n")
        question = read_question("wish a (*)\nwish c (*)\n")
        whole = tuple((name, (1, 0, 0), ()) for name in "abcd")
        self.assertEqual(way_to(book, question, whole, "d"), (1, "c", "d"))
        self.assertEqual(way_to(book, question, whole, "b"), (0, "a", "b"))

    def test_least_of_the_shortest(self):
        book = read_book("package a 1.0.0\n  needs c (*)\n  needs b (*)\npackage b 1.0.0\n  needs d (*)\npackage c 1.0.0\n  needs d (*)\npackage d 1.0.0\n")
        whole = tuple((name, (1, 0, 0), ()) for name in "abcd")
        self.assertEqual(way_to(book, read_question("wish a (*)\n"), whole, "d"), (0, "a", "b", "d"))
        self.assertEqual(way_to(book, read_question("wish c (*)\nwish a (*)\nwish b (*)\n"), whole, "d"), (0, "c", "d"))

    def test_needs_that_are_off_lead_nowhere(self):
        book = read_book("package a 1.0.0\n  feature f\n  if f needs c (*)\n  needs b (*)\npackage b 1.0.0\n  needs c (*)\npackage c 1.0.0\n")
        whole = tuple((name, (1, 0, 0), ()) for name in "abc")
        self.assertEqual(way_to(book, read_question("wish a (*)\n"), whole, "c"), (0, "a", "b", "c"))
        on = (("a", (1, 0, 0), ("f",)),) + whole[1:]
        self.assertEqual(way_to(book, read_question("wish a (*) with f\n"), on, "c"), (0, "a", "c"))

    def test_not_right_then_not_there(self):
        for thing in [(APP,), (APP, KIT, LIB), (LIB, APP), [APP, LIB], None, ()]:
            self.assertIsNotNone(raised(NotRight, way_to, BOOK, WISH, thing, "app"))
            self.assertIsNotNone(raised(NotRight, way_to, BOOK, WISH, thing, None))
        for name in ["kit", "gone", "", "App", None, ("app",), ["app"], 0, b"app"]:
            self.assertIsNotNone(raised(NotThere, way_to, BOOK, WISH, (APP, LIB), name))
        for thing in odd_things() + odd_tuples() + [nested(40), branching(40)]:
            self.assertIsNotNone(raised(NotRight, way_to, BOOK, WISH, thing, "app"))
            if thing != ("app",):
                self.assertIsNotNone(raised(NotThere, way_to, BOOK, WISH, (APP, LIB), thing))


class CoreTest(unittest.TestCase):
    def test_cores(self):
        old = ("old", (2, 0, 0), ())
        for question, thing, left in [
            (WISH, (APP, LIB), (APP, LIB)), (WISH, (APP, KIT, LIB), (APP, LIB)), (WISH, (APP_GUI, KIT, LIB, old), (APP, LIB)),
            (WISH, (("app", (1, 0, 0), ("gui", "log", "net")), KIT, ("lib", (1, 2, 0), ("tls",))), (APP, ("lib", (1, 2, 0), ()))),
            (GUI, (APP_GUI, ("aux", (1, 0, 0), ()), ("kit", (1, 0, 0), ("fast", "slow")), LIB), (APP_GUI, KIT, LIB)),
            (Question((), ()), (APP, LIB), ()), (Question((), ()), (), ()),
        ]:
            with self.subTest(thing=thing):
                self.assertEqual(core(BOOK, question, thing), left)
                self.assertIsNone(fault(BOOK, question, left))
                self.assertEqual(core(BOOK, question, left), left)

    def test_not_closed(self):
        for thing in [
            None, [APP, LIB], (LIB, APP), (), (APP,), (LIB,), (("app", (3, 0, 0), ()), LIB), (("app", (1, 0, 0), ("gui",)), KIT, LIB),
            (APP, ("lib", (2, 0, 0), ())), (APP, LIB, ("old", (1, 0, 0), ())), (APP, ("kit", (1, 0, 0), ("slow",)), LIB),
        ]:
            self.assertIsNotNone(raised(NotClosed, core, BOOK, WISH, thing))
        for thing in odd_things() + odd_tuples() + [nested(40), branching(40)]:
            self.assertIsNotNone(raised(NotClosed, core, BOOK, WISH, thing))


class WorldsTest(unittest.TestCase):
    """What the program tells of many small books is what the document says, told once more."""

    def test_faults_cores_and_ways(self):
        dice = chance(6)
        kinds = {}
        for _ in range(150):
            book, question = some_world(dice)
            for thing in all_installations(book):
                truth = Truth(book, question, thing)
                wrong = fault(book, question, thing)
                self.assertEqual(wrong, truth.fault())
                self.assertIs(is_right(book, question, thing), wrong is None)
                kinds[wrong and wrong[0]] = kinds.get(wrong and wrong[0], 0) + 1
                if truth.faults():
                    self.assertIsNotNone(raised(NotClosed, core, book, question, thing))
                    continue
                left = core(book, question, thing)
                self.assertEqual(left, truth.core())
                self.assertIs(is_right(book, question, left), True)
                self.assertEqual(core(book, question, left), left)
                if wrong is None:
                    self.check_ways(book, question, thing, truth)
        for kind in [None, "feature", "wish", "need", "bar", "unwanted"]:
            self.assertGreater(kinds[kind], 20, kind)

    def check_ways(self, book, question, thing, truth):
        ways = truth.ways(len(thing))
        for name, _, _ in thing:
            least = min((len(way), way) for way in ways if way[-1] == name)[1]
            self.assertEqual(way_to(book, question, thing, name), least)


class NothingIsChangedTest(unittest.TestCase):
    def test_book_and_question_stay(self):
        book, question = Book(BOOK.entries), Question(GUI.wishes, GUI.locks)
        whole = [APP_GUI, KIT, LIB]
        fault(book, question, whole)
        core(book, question, tuple(whole))
        way_to(book, question, tuple(whole), "kit")
        self.assertEqual((book, question, whole), (BOOK, GUI, [APP_GUI, KIT, LIB]))


if __name__ == "__main__":
    unittest.main()
