"""Promises 10.1 to 10.3 and example e06: what runs, what is affected, and how one installation makes way for another."""

import itertools
import unittest

from books import chain_book, numbered
from lockwright.books import Book
from lockwright.booktexts import read_book
from lockwright.errors import NoStart, NoStop, NotSafe
from lockwright.running import Running, affected, changeover, is_changeover, is_safe, knots
from moved import Plain, bent_moves, leads, needs_in, safe_ones, some_safe_worlds, told_affected, told_knots
from samples import branching, chance, entry, nested, odd_things, odd_tuples, raised
from worlds import NAMES, lots

B = read_book("package app 1.0.0\n  needs lib (^1.0.0)\npackage app 2.0.0\n  needs lib (^2.0.0)\npackage lib 1.1.0\npackage lib 1.2.0\n")
APP, LIB, LIB_OLD = ("app", (1, 0, 0), ()), ("lib", (1, 2, 0), ()), ("lib", (1, 1, 0), ())
BOOK = read_book(
    "package app 1.0.0\n  feature gui\n  needs lib (^1.0.0)\n  if gui needs kit (*) with fast\n  bars old (<2.0.0)\n"
    "package hub 1.0.0\n  needs net (*)\npackage kit 1.0.0\n  feature fast turns slow\n  feature slow\npackage lib 1.2.0\npackage lib 2.0.0\n"
    "package net 1.0.0\n  needs hub (*)\npackage old 1.0.0\npackage old 2.0.0\npackage top 1.0.0\n  needs app (*)\n  needs hub (*)\n"
)
GUI, KIT = ("app", (1, 0, 0), ("gui",)), ("kit", (1, 0, 0), ("fast", "slow"))
HUB, NET = ("hub", (1, 0, 0), ()), ("net", (1, 0, 0), ())
TOP, OLD = ("top", (1, 0, 0), ()), ("old", (2, 0, 0), ())
UNSAFE = [
    (APP,), (GUI, LIB), (GUI, ("kit", (1, 0, 0), ()), LIB), (APP, LIB, ("old", (1, 0, 0), ())), (HUB,), (NET,), (TOP,), (APP, ("lib", (2, 0, 0), ())),
    (("app", (2, 0, 0), ()), LIB), (("zoo", (1, 0, 0), ()),), (("kit", (1, 0, 0), ("fast",)),), (("lib", (1, 2, 0), ("gone",)),),
]
NO_INSTALLATIONS = [[], [LIB], (LIB, APP), (LIB, LIB), (LIB, ("lib", (2, 0, 0), ())), (["lib", (1, 2, 0), ()],), (("lib", (1, 2), ()),), (("lib", (1, 2, 0)),), "lib",
                    (("lib", (True, 2, 0), ()),), (("lib", (1, 2, False), ()),), (("lib", (1, 2, 0), []),), (("lib", (1, 2, 0), ("b", "a")),), (("Lib", (1, 2, 0), ()),),
                    (("lib", [1, 2, 0], ()),), (("lib", (1, 2, 0), ("",)),), (("lib", (1, 2, 1000001), ()),), {LIB: True}, None, (None,), ("lib",)]
NO_LOTS = [[], ["lib"], ("lib", "app"), ("lib", "lib"), "lib", (LIB,), ("",), ("Lib",), (b"lib",), None, (None,), 0, {"lib": True}, {}, (("lib",),)]
ODD = [thing for thing in odd_things() + odd_tuples() + [nested(40), branching(40)] if thing != ()]


def state(running):
    return (running.runs(), running.moves())


class IsSafeTest(unittest.TestCase):
    def test_by_hand(self):
        for thing in [(), (LIB,), (APP, LIB), (GUI, KIT, LIB), (APP, LIB, OLD), (HUB, NET), (APP, HUB, LIB, NET, TOP), (KIT,), (("kit", (1, 0, 0), ("slow",)),),
                      (APP, KIT, LIB), (("old", (1, 0, 0), ()),)]:
            self.assertIs(is_safe(BOOK, thing), True, thing)
        for thing in UNSAFE + NO_INSTALLATIONS + ODD:
            self.assertIs(is_safe(BOOK, thing), False)
        self.assertIs(is_safe(Book(()), ()), True)
        self.assertIs(is_safe(Book(()), (LIB,)), False)

    def test_drawn(self):
        dice = chance(51)
        for book, safe in some_safe_worlds(dice, 30, 60):
            for names in lots(NAMES):
                for features in itertools.product([(), ("f",), ("f", "g")], repeat=len(names)):
                    thing = tuple((name, (dice.randint(1, 2), 0, 0), lot) for name, lot in zip(names, features))
                    self.assertIs(is_safe(book, thing), thing in safe)


class RunningTest(unittest.TestCase):
    def test_by_hand(self):
        running = Running(BOOK)
        self.assertEqual(state(running), ((), ()))
        self.assertIsNone(running.start((LIB,)))
        self.assertEqual(running.runs(), (LIB,))
        self.assertIsNone(running.start((GUI, KIT)))
        self.assertEqual(running.runs(), (GUI, KIT, LIB))
        running.start((HUB, NET))
        self.assertEqual(running.runs(), (GUI, HUB, KIT, LIB, NET))
        self.assertIsNone(running.stop(("app", "kit")))
        running.stop(("hub", "net"))
        self.assertEqual(running.runs(), (LIB,))
        moves = (("start", (LIB,)), ("start", (GUI, KIT)), ("start", (HUB, NET)), ("stop", ("app", "kit")), ("stop", ("hub", "net")))
        self.assertEqual(running.moves(), moves)
        self.assertIsInstance(running.moves(), tuple)
        self.assertIsInstance(running.runs(), tuple)

    def test_moves_of_nothing(self):
        running = Running(BOOK)
        running.start(())
        running.stop(())
        self.assertEqual(state(running), ((), (("start", ()), ("stop", ()))))

    def refused(self, running, kind, call, thing):
        before = state(running)
        self.assertIsNotNone(raised(kind, call, thing), thing)
        self.assertEqual(state(running), before)

    def test_no_start(self):
        running = Running(BOOK)
        running.start((LIB,))
        for thing in NO_INSTALLATIONS + ODD:
            self.refused(running, NoStart, running.start, thing)
        # What runs already is no start, though nothing would be safe, either.
        for thing in [(LIB,), (LIB_OLD,), (GUI, LIB), (HUB, ("lib", (9, 9, 9), ("gone",))), (("lib", (2, 0, 0), ()), TOP)]:
            self.refused(running, NoStart, running.start, thing)
        self.refused(Running(BOOK), NoStart, Running(BOOK).start, (NET, HUB))

    def test_not_safe_starts(self):
        running = Running(BOOK)
        for thing in UNSAFE:
            self.refused(running, NotSafe, running.start, thing)
        running.start((OLD,))
        running.start((LIB,))
        for thing in [(GUI,), (GUI, ("kit", (1, 0, 0), ("slow",))), (HUB,), (TOP,), (APP, TOP), (HUB, TOP), (("zoo", (1, 0, 0), ()),)]:
            self.refused(running, NotSafe, running.start, thing)
        running.start((APP, HUB, NET, TOP))
        self.assertEqual(running.runs(), (APP, HUB, LIB, NET, OLD, TOP))

    def test_bars_of_either_side(self):
        book = read_book("package a 1.0.0\n  bars b (1.0.0)\npackage b 1.0.0\npackage b 2.0.0\n")
        a, b = ("a", (1, 0, 0), ()), ("b", (1, 0, 0), ())
        for first, then in [(a, b), (b, a)]:
            running = Running(book)
            running.start((first,))
            self.refused(running, NotSafe, running.start, (then,))
        self.refused(Running(book), NotSafe, Running(book).start, (a, b))
        running.stop(("b",))
        running.start((a, ("b", (2, 0, 0), ())))
        self.assertEqual(len(running.runs()), 2)

    def test_no_stop(self):
        running = Running(BOOK)
        running.start((APP, HUB, LIB, NET, TOP))
        for thing in NO_LOTS + ODD:
            self.refused(running, NoStop, running.stop, thing)
        for thing in [("kit",), ("app", "kit"), ("gone",), ("lib", "zoo"), ("aaa", "lib")]:
            self.refused(running, NoStop, running.stop, thing)

    def test_not_safe_stops(self):
        running = Running(BOOK)
        running.start((GUI, HUB, KIT, LIB, NET, TOP))
        for thing in [("lib",), ("app",), ("kit",), ("hub",), ("net",), ("hub", "net"), ("app", "lib"), ("app", "hub", "kit", "lib", "net")]:
            self.refused(running, NotSafe, running.stop, thing)
        running.stop(("app", "top"))
        self.refused(running, NotSafe, running.stop, ("hub",))
        running.stop(("kit", "lib"))
        running.stop(("hub", "net"))
        self.assertEqual(running.runs(), ())

    def test_a_need_whose_feature_is_not_on(self):
        running = Running(BOOK)
        running.start((APP, LIB))
        running.start((KIT,))
        running.stop(("kit",))
        running.stop(("app",))
        running.start((GUI, KIT))
        self.refused(running, NotSafe, running.stop, ("kit",))

    def test_copies_go_on_apart(self):
        running = Running(BOOK)
        running.start((LIB,))
        other = running.copy()
        self.assertIsInstance(other, Running)
        self.assertEqual(state(other), state(running))
        before = state(running)
        other.start((APP,))
        self.assertEqual(state(running), before)
        running.stop(("lib",))
        self.assertEqual(state(other), ((APP, LIB), (("start", (LIB,)), ("start", (APP,)))))
        self.assertEqual(state(running), ((), (("start", (LIB,)), ("stop", ("lib",)))))
        self.refused(other, NotSafe, other.stop, ("lib",))
        self.assertFalse(running == state(running))

    def test_drawn(self):
        """Moves drawn at random are let or refused, as a second way of telling says."""
        dice = chance(52)
        seen = {}
        for book, safe in some_safe_worlds(dice, 25, 80):
            running, plain = Running(book), Plain(book)
            triples = sorted({triple for thing in safe for triple in thing}) + [("a", (3, 0, 0), ()), ("b", (1, 0, 0), ("f",))]
            for _ in range(60):
                there = [name for name in plain.now]
                if dice.random() < 0.5:
                    picked = {triple[0]: triple for triple in dice.sample(triples, min(len(triples), dice.randint(0, 3)))}
                    if dice.random() < 0.5:
                        picked = {triple[0]: triple for triple in dice.choice(safe) if triple[0] not in plain.now}
                    move = ("start", tuple(picked[name] for name in sorted(picked)))
                else:
                    names = list(NAMES[:2]) if dice.random() < 0.1 else there
                    move = ("stop", tuple(sorted(dice.sample(names, dice.randint(0, len(names))))))
                call = running.start if move[0] == "start" else running.stop
                wrong = plain.go(move)
                seen[(move[0], wrong)] = seen.get((move[0], wrong), 0) + 1
                if wrong is None:
                    self.assertIsNone(call(move[1]))
                else:
                    self.assertIsNotNone(raised({"NoStart": NoStart, "NoStop": NoStop, "NotSafe": NotSafe}[wrong], call, move[1]))
                self.assertEqual(state(running), (plain.runs(), tuple(plain.done)))
        self.assertEqual(len(seen), 6)
        self.assertGreater(min(seen.values()), 10)


class AffectedTest(unittest.TestCase):
    def test_e06(self):
        self.assertEqual(affected(B, (APP, LIB_OLD), (APP, LIB)), ("app", "lib"))

    def test_by_hand(self):
        for old, new, names in [
            ((), (), ()), ((APP, LIB), (APP, LIB), ()), ((), (APP, LIB), ("app", "lib")), ((APP, LIB), (), ("app", "lib")), ((LIB,), (APP, LIB), ("app",)),
            ((GUI, KIT, LIB), (APP, KIT, LIB), ("app",)), ((APP, LIB, OLD), (APP, LIB), ("old",)), ((APP, HUB, LIB, NET, TOP), (APP, HUB, LIB, NET), ("top",)),
            ((APP, HUB, LIB, NET, TOP), (GUI, HUB, KIT, LIB, NET, TOP), ("app", "kit", "top")), ((APP, HUB, LIB, NET), (APP, LIB), ("hub", "net")),
            ((APP, KIT, LIB), (APP, LIB), ("kit",)), ((GUI, KIT, LIB, OLD), (LIB, ("old", (1, 0, 0), ())), ("app", "kit", "old")),
        ]:
            self.assertEqual(affected(BOOK, old, new), names)
            self.assertEqual(affected(BOOK, new, old), names)

    def test_needs_whose_feature_is_not_on_lead_nowhere(self):
        book = read_book("package a 1.0.0\n  feature f\n  if f needs b (*)\npackage b 1.0.0\npackage b 2.0.0\npackage c 1.0.0\n  needs a (*)\n")
        for lot, names in [((), ("b",)), (("f",), ("a", "b", "c"))]:
            old = (("a", (1, 0, 0), lot), ("b", (1, 0, 0), ()), ("c", (1, 0, 0), ()))
            self.assertEqual(affected(book, old, (old[0], ("b", (2, 0, 0), ()), old[2])), names)

    def test_chains(self):
        many = 60
        book, _ = chain_book(many, features=())
        names = [numbered(k) for k in range(many)]
        old = tuple((name, (1, 0, 0), ()) for name in names)
        for at in (0, 1, 30, 59):
            new = tuple((name, (2 if k == at else 1, 0, 0), ()) for k, name in enumerate(names))
            self.assertEqual(affected(book, old, new), tuple(names[:at + 1]))

    def test_not_safe(self):
        for thing in UNSAFE + NO_INSTALLATIONS + ODD:
            self.assertIsNotNone(raised(NotSafe, affected, BOOK, thing, (LIB,)))
            self.assertIsNotNone(raised(NotSafe, affected, BOOK, (LIB,), thing))
            self.assertIsNotNone(raised(NotSafe, affected, BOOK, thing, thing))

    def test_drawn(self):
        dice = chance(53)
        seen = set()
        for book, safe in some_safe_worlds(dice, 40, 200):
            for _ in range(15):
                old, new = dice.choice(safe), dice.choice(safe)
                told = affected(book, old, new)
                self.assertEqual(told, told_affected(book, old, new))
                self.assertEqual(affected(book, new, old), told)
                seen.add((len(told), len([triple for triple in old if triple in new and triple[0] in told])))
        self.assertGreater(len(seen), 6)
        self.assertGreater(max(alike for _, alike in seen), 0)

    def test_all_rows_of_moves(self):
        """The sixth step: what is affected stands still on each way, and all else on one way runs on."""
        dice = chance(54)
        ways = 0
        for book, safe in some_safe_worlds(dice, 40, 40):
            states = [frozenset(thing) for thing in safe]
            for _ in range(6):
                old, new = dice.choice(states), dice.choice(states)
                told = affected(book, tuple(sorted(old)), tuple(sorted(new)))
                for name in sorted({triple[0] for triple in old}):
                    going_on = self.reached([one for one in states if name in {triple[0] for triple in one}], old)
                    self.assertEqual(new not in going_on, name in told)
                    ways += 1
                staying = {triple for triple in old if triple[0] not in told}
                self.assertIn(new, self.reached([one for one in states if staying <= one], old))
                self.assertLessEqual(set(told), {triple[0] for triple in old | new})
        self.assertGreater(ways, 200)

    def reached(self, states, start):
        """All of some states that starts and stops lead to from one of them, without leaving them."""
        found, waiting = {start}, [start]
        while waiting:
            one = waiting.pop()
            more = [other for other in states if other not in found and (one < other or other < one)]
            found.update(more)
            waiting += more
        return found


class KnotsTest(unittest.TestCase):
    def test_by_hand(self):
        self.assertEqual(knots(BOOK, ()), [])
        self.assertEqual(knots(BOOK, (GUI, HUB, KIT, LIB, NET, TOP)), [("app",), ("hub", "net"), ("kit",), ("lib",), ("top",)])
        book = read_book(
            "package a 1.0.0\n  needs d (*)\npackage b 1.0.0\n  needs c (*)\npackage c 1.0.0\n  feature f\n  needs b (*)\n  if f needs a (*)\n"
            "package d 1.0.0\n  needs e (*)\n  needs e (*)\npackage e 1.0.0\n  needs a (*)\n"
        )
        whole = tuple((name, (1, 0, 0), ()) for name in "abcde")
        self.assertEqual(knots(book, whole), [("a", "d", "e"), ("b", "c")])
        self.assertEqual(knots(book, (*whole[:2], ("c", (1, 0, 0), ("f",)), *whole[3:])), [("a", "d", "e"), ("b", "c")])
        rows = knots(book, whole)
        rows.clear()
        self.assertEqual(len(knots(book, whole)), 2)

    def test_two_rings_that_share_a_package(self):
        book = read_book("package a 1.0.0\n  needs b (*)\npackage b 1.0.0\n  needs a (*)\n  needs c (*)\npackage c 1.0.0\n  needs b (*)\npackage d 1.0.0\n  needs a (*)\n")
        self.assertEqual(knots(book, tuple((name, (1, 0, 0), ()) for name in "abcd")), [("a", "b", "c"), ("d",)])

    def test_long_ones(self):
        names = [numbered(k) for k in range(200)]
        for last, wanted in [((), [(name,) for name in names]), ((("", names[0], (((0, 0, 0), None),), ()),), [tuple(names)])]:
            needs = [(("", other, (((0, 0, 0), None),), ()),) for other in names[1:]] + [last]
            book = Book(tuple(entry(name, (1, 0, 0), (), need) for name, need in zip(names, needs)))
            self.assertEqual(knots(book, tuple((name, (1, 0, 0), ()) for name in names)), wanted)

    def test_not_safe(self):
        for thing in UNSAFE + NO_INSTALLATIONS + ODD:
            self.assertIsNotNone(raised(NotSafe, knots, BOOK, thing))

    def test_drawn(self):
        dice = chance(55)
        sizes = set()
        for book, safe in some_safe_worlds(dice, 60, 300):
            for thing in dice.sample(safe, min(10, len(safe))):
                told = knots(book, thing)
                self.assertIsInstance(told, list)
                self.assertEqual(told, told_knots(book, thing))
                sizes |= {len(lot) for lot in told}
        self.assertLessEqual({1, 2, 3}, sizes)


class ChangeoverTest(unittest.TestCase):
    def check(self, book, old, new):
        """A changeover is as the document says; it is told."""
        moves = changeover(book, old, new)
        self.assertIsInstance(moves, tuple)
        self.assertTrue(leads(book, old, new, moves))
        self.assertIs(is_changeover(book, old, new, moves), True)
        names = told_affected(book, old, new)
        stops = [what for kind, what in moves if kind == "stop"]
        starts = [tuple(triple[0] for triple in what) for kind, what in moves if kind == "start"]
        self.assertEqual(len(stops) + len(starts), len(moves))
        self.assertEqual(sorted(stops), told_knots(book, old, names))
        self.assertEqual(sorted(starts), told_knots(book, new, names))
        return moves

    def test_by_hand(self):
        self.assertEqual(self.check(B, (APP, LIB_OLD), (APP, LIB)), (("stop", ("app",)), ("stop", ("lib",)), ("start", (LIB,)), ("start", (APP,))))
        for old, new in itertools.permutations([(), (APP, LIB), (GUI, KIT, LIB), (APP, HUB, LIB, NET, TOP), (APP, LIB, OLD), (HUB, NET), (KIT, ("old", (1, 0, 0), ()))], 2):
            self.check(BOOK, old, new)
        for thing in [(), (APP, LIB), (HUB, NET)]:
            self.assertEqual(changeover(BOOK, thing, thing), ())
        self.assertEqual(changeover(BOOK, (HUB, NET), ()), (("stop", ("hub", "net")),))
        self.assertEqual(changeover(BOOK, (), (HUB, NET)), (("start", (HUB, NET)),))
        self.assertEqual(changeover(BOOK, (LIB,), (LIB, OLD)), (("start", (OLD,)),))

    def test_packages_that_bar_one_another_make_way(self):
        book = read_book("package a 1.0.0\n  bars b (*)\npackage b 1.0.0\n  bars a (*)\npackage c 1.0.0\n  needs a (*)\npackage c 2.0.0\n  needs b (*)\n")
        self.check(book, (("a", (1, 0, 0), ()), ("c", (1, 0, 0), ())), (("b", (1, 0, 0), ()), ("c", (2, 0, 0), ())))

    def test_long_chains_and_rings(self):
        for many, turned in [(40, False), (40, True), (100, False)]:
            book, _ = chain_book(many, features=(), turned=turned)
            names = sorted({one.name for one in book.entries})
            old, new = (tuple((name, (major, 0, 0), ()) for name in names) for major in (1, 2))
            moves = changeover(book, old, new)
            self.assertEqual(len(moves), 2 * many)
            self.assertIs(is_changeover(book, old, new, moves), True)
            half = old[:many // 2] + new[many // 2:]
            self.assertIs(is_changeover(book, old, half, changeover(book, old, half)), True)
            if many == 40:
                self.check(book, old, new)
                self.check(book, half, new)
        ring = Book(tuple(entry(numbered(k), (major, 0, 0), (), (("", numbered((k + 1) % 40), (((0, 0, 0), None),), ()),)) for k in range(40) for major in (1, 2)))
        old, new = (tuple((numbered(k), (major, 0, 0), ()) for k in range(40)) for major in (1, 2))
        self.assertEqual(changeover(ring, old, new), (("stop", tuple(triple[0] for triple in old)), ("start", new)))

    def test_not_safe(self):
        for thing in UNSAFE + NO_INSTALLATIONS + ODD:
            self.assertIsNotNone(raised(NotSafe, changeover, BOOK, thing, (LIB,)))
            self.assertIsNotNone(raised(NotSafe, changeover, BOOK, (LIB,), thing))
            self.assertIsNotNone(raised(NotSafe, is_changeover, BOOK, thing, (LIB,), ()))
            self.assertIsNotNone(raised(NotSafe, is_changeover, BOOK, (LIB,), thing, ()))
            self.assertIsNotNone(raised(NotSafe, is_changeover, BOOK, thing, thing, None))

    def test_drawn(self):
        dice = chance(56)
        for book, safe in some_safe_worlds(dice, 60, 300):
            for _ in range(6):
                self.check(book, dice.choice(safe), dice.choice(safe))


class IsChangeoverTest(unittest.TestCase):
    OLD = (APP, HUB, LIB, NET, TOP)
    NEW = (GUI, HUB, KIT, LIB, NET, TOP)

    def test_other_things(self):
        moves = changeover(BOOK, self.OLD, self.NEW)
        self.assertIs(is_changeover(BOOK, self.OLD, self.NEW, moves), True)
        for thing in ODD + [(), list(moves), None, moves[0], (moves,), moves + (None,), (None,) + moves]:
            self.assertIs(is_changeover(BOOK, self.OLD, self.NEW, thing), False)
        for thing in [list(moves), None, "", [], {}, 0, False, moves]:
            self.assertIs(is_changeover(BOOK, self.OLD, self.OLD, thing), False)
        self.assertIs(is_changeover(BOOK, self.OLD, self.OLD, ()), True)

    def test_one_left_out_or_twice_or_elsewhere(self):
        moves = changeover(BOOK, self.OLD, self.NEW)
        for at, move in enumerate(moves):
            self.assertIs(is_changeover(BOOK, self.OLD, self.NEW, moves[:at] + moves[at + 1:]), False)
            self.assertIs(is_changeover(BOOK, self.OLD, self.NEW, moves[:at] + (move,) + moves[at:]), False)
            for thing in ODD + NO_INSTALLATIONS:
                self.assertIs(is_changeover(BOOK, self.OLD, self.NEW, moves[:at] + (thing,) + moves[at:]), False)
                self.assertIs(is_changeover(BOOK, self.OLD, self.NEW, moves[:at] + (thing,) + moves[at + 1:]), False)
                self.assertIs(is_changeover(BOOK, self.OLD, self.NEW, moves[:at] + ((move[0], thing),) + moves[at + 1:]), False)
                self.assertIs(is_changeover(BOOK, self.OLD, self.NEW, moves[:at] + ((thing, move[1]),) + moves[at + 1:]), False)
            for bent in [list(move), move[:1], (*move, ()), (move[0].upper(), move[1]), (move[0].encode(), move[1]), (move[1], move[0]), (move[0], list(move[1])),
                         ("stop" if move[0] == "start" else "start", move[1])]:
                self.assertIs(is_changeover(BOOK, self.OLD, self.NEW, moves[:at] + (bent,) + moves[at + 1:]), False)
        for row in itertools.permutations(moves):
            self.assertIs(is_changeover(BOOK, self.OLD, self.NEW, row), leads(BOOK, self.OLD, self.NEW, row))

    def test_other_ways_that_lead_there(self):
        """Moves that stop more, or several knots at once, or nothing, lead there too."""
        for moves in [
            (("stop", ("app", "top")), ("start", (GUI, KIT, TOP))),
            (("stop", ("app", "hub", "lib", "net", "top")), ("start", self.NEW)),
            (("start", ()), ("stop", ("app", "top")), ("stop", ()), ("start", (KIT,)), ("start", (GUI, TOP))),
            (("start", (OLD,)), ("stop", ("old", "top")), ("stop", ("app",)), ("start", (GUI, KIT)), ("start", (TOP,))),
        ]:
            self.assertIs(is_changeover(BOOK, self.OLD, self.NEW, moves), True)
            self.assertIs(is_changeover(BOOK, self.OLD, self.OLD, moves), False)
            self.assertIs(is_changeover(BOOK, (), self.NEW, moves), False)

    def test_drawn(self):
        dice = chance(57)
        told = {True: 0, False: 0}
        for book, safe in some_safe_worlds(dice, 40, 300):
            for _ in range(6):
                old, new = dice.choice(safe), dice.choice(safe)
                moves = changeover(book, old, new)
                others = [("start", new[:1]), ("stop", tuple(triple[0] for triple in old[:1])), ("start", ())]
                for _ in range(8):
                    bent = bent_moves(dice, moves, others)
                    right = leads(book, old, new, bent)
                    told[right] += 1
                    self.assertIs(is_changeover(book, old, new, bent), right)
        self.assertGreater(min(told.values()), 100)


class NothingIsChangedTest(unittest.TestCase):
    def test_equal_calls(self):
        old, new = IsChangeoverTest.OLD, IsChangeoverTest.NEW
        book = Book(BOOK.entries)
        for call in [affected, changeover]:
            self.assertEqual(call(book, old, new), call(book, old, new))
        thing = [list(move) for move in changeover(book, old, new)]
        before = repr(thing)
        self.assertIs(is_changeover(book, old, new, thing), False)
        self.assertEqual((repr(thing), book), (before, BOOK))
        self.assertEqual(needs_in(book, old), needs_in(BOOK, old))
        self.assertEqual(len(safe_ones(Book(()))), 1)


if __name__ == "__main__":
    unittest.main()
