"""Promises 14.1 and 14.2: fleets of machines, and rollouts over them."""

import itertools
import unittest

from books import chain_book, numbered
from lockwright.booktexts import read_book
from lockwright.errors import NoMachine, NoNumber, NoRollout, NoStart, NoStop, NotSafe
from lockwright.fleets import Fleet, is_rollout, rollout
from lockwright.running import changeover
from moved import Plain, bent_moves, some_safe_worlds, told_affected
from samples import branching, chance, nested, odd_things, odd_tuples, raised
from worlds import NAMES

BOOK = read_book(
    "package app 1.0.0\n  feature gui\n  needs lib (^1.0.0)\n  if gui needs kit (*)\npackage kit 1.0.0\npackage lib 1.1.0\npackage lib 1.2.0\n"
    "package log 1.0.0\npackage old 1.0.0\n  bars log (*)\n"
)
APP, GUI, KIT = ("app", (1, 0, 0), ()), ("app", (1, 0, 0), ("gui",)), ("kit", (1, 0, 0), ())
LIB, NEW, LOG, OLD = ("lib", (1, 1, 0), ()), ("lib", (1, 2, 0), ()), ("log", (1, 0, 0), ()), ("old", (1, 0, 0), ())
BEGIN = (APP, LIB, LOG)
ODD = odd_things() + odd_tuples() + [nested(40), branching(40)]
NOT_SAFE = [(APP,), (LIB, APP), [APP, LIB], (LOG, OLD), (GUI, LIB), None, "app", ("app",), (("lib", (True, 1, 0), ()),)] + [thing for thing in ODD if thing != ()]
NO_NUMBERS = [True, False, None, "1", (1,), [1], -1, 13, 10 ** 12 - 1] + [thing for thing in ODD if thing not in (0, 1) or isinstance(thing, bool)]
ERRORS = {"NoStart": NoStart, "NoStop": NoStop, "NotSafe": NotSafe}


class PlainFleet:
    """A Fleet, told once more: how many serve is counted anew each time."""

    def __init__(self, book, many, installation):
        self.machines = [Plain(book, installation) for _ in range(many)]
        self.least = {triple[0]: many for triple in installation}

    def serving(self, name):
        return sum(name in machine.now for machine in self.machines)

    def go(self, machine, move):
        wrong = self.machines[machine].go(move)
        self.least = {name: min(least, self.serving(name)) for name, least in self.least.items()}
        return wrong

    def state(self):
        return ([machine.runs() for machine in self.machines], [self.serving(name) for name in NAMES], self.least)


def state(fleet, many, names=NAMES):
    return ([fleet.runs(machine) for machine in range(many)], [fleet.serving(name) for name in names], fleet.least_served())


def told_rollout(book, old, new, many, least, moves):
    """Whether moves of the right form, on machines that there are, roll new out."""
    fleet = PlainFleet(book, many, old)
    both = {triple[0] for triple in old} & {triple[0] for triple in new}
    for machine, move in moves:
        if fleet.go(machine, move) is not None or any(fleet.serving(name) < least for name in both):
            return False
    return all(machine.runs() == new for machine in fleet.machines)


class FleetTest(unittest.TestCase):
    NAMES = ("app", "kit", "lib", "log", "zoo")

    def test_by_hand(self):
        fleet = Fleet(BOOK, 3, BEGIN)
        self.assertEqual(state(fleet, 3, self.NAMES), ([BEGIN] * 3, [3, 0, 3, 3, 0], {"app": 3, "lib": 3, "log": 3}))
        self.assertIsNone(fleet.stop(1, ("app",)))
        self.assertEqual(state(fleet, 3, self.NAMES), ([BEGIN, (LIB, LOG), BEGIN], [2, 0, 3, 3, 0], {"app": 2, "lib": 3, "log": 3}))
        self.assertIsNone(fleet.stop(1, ("lib",)))
        self.assertIsNone(fleet.start(1, (NEW,)))
        fleet.start(1, (GUI, KIT))
        self.assertEqual(state(fleet, 3, self.NAMES), ([BEGIN, (GUI, KIT, NEW, LOG), BEGIN], [3, 1, 3, 3, 0], {"app": 2, "lib": 2, "log": 3}))
        fleet.stop(0, ("app", "lib"))
        fleet.stop(2, ("app", "lib"))
        fleet.stop(1, ("app", "kit"))
        fleet.start(0, (LIB,))
        self.assertEqual(state(fleet, 3, self.NAMES), ([(LIB, LOG), (NEW, LOG), (LOG,)], [0, 0, 2, 3, 0], {"app": 0, "lib": 1, "log": 3}))
        fleet.stop(0, ("lib", "log"))
        fleet.start(0, (OLD,))
        self.assertEqual((fleet.serving("old"), fleet.serving("log"), fleet.runs(0)), (1, 2, (OLD,)))
        self.assertEqual(fleet.least_served(), {"app": 0, "lib": 1, "log": 2})

    def test_one_machine_and_many(self):
        for many in range(1, 13):
            fleet = Fleet(BOOK, many, BEGIN)
            self.assertEqual(fleet.least_served(), {"app": many, "lib": many, "log": many})
            fleet.stop(many - 1, ("log",))
            self.assertEqual((fleet.serving("log"), fleet.least_served()["log"], fleet.runs(many - 1)), (many - 1, many - 1, (APP, LIB)))
            fleet.start(many - 1, (LOG,))
            self.assertEqual((fleet.serving("log"), fleet.least_served()["log"]), (many, many - 1))
            self.assertIsNotNone(raised(NoMachine, fleet.runs, many))
        fleet = Fleet(BOOK, 2, ())
        self.assertEqual((fleet.least_served(), fleet.runs(0), fleet.serving("app")), ({}, (), 0))
        fleet.start(0, (LIB,))
        fleet.stop(0, ("lib",))
        self.assertEqual(fleet.least_served(), {})

    def test_what_was_told_may_be_changed(self):
        fleet = Fleet(BOOK, 2, BEGIN)
        told = fleet.least_served()
        self.assertIs(type(told), dict)
        told["app"] = 0
        told.pop("lib")
        self.assertEqual(fleet.least_served(), {"app": 2, "lib": 2, "log": 2})
        before = fleet.least_served()
        fleet.stop(0, ("log",))
        self.assertEqual(before, {"app": 2, "lib": 2, "log": 2})

    def test_no_number_then_not_safe(self):
        for thing in NO_NUMBERS + [0]:
            self.assertIsNotNone(raised(NoNumber, Fleet, BOOK, thing, BEGIN), thing)
            self.assertIsNotNone(raised(NoNumber, Fleet, BOOK, thing, (APP,)), thing)
        for thing in NOT_SAFE:
            self.assertIsNotNone(raised(NotSafe, Fleet, BOOK, 1, thing))
            self.assertIsNotNone(raised(NotSafe, Fleet, BOOK, 12, thing))

    def test_refused_in_order(self):
        fleet = Fleet(BOOK, 2, BEGIN)
        fleet.stop(0, ("app",))
        before = state(fleet, 2, self.NAMES)
        no_machines = [thing for thing in NO_NUMBERS if thing not in (0, 1) or isinstance(thing, bool)] + [2, 12]
        for thing in no_machines:
            self.assertIsNotNone(raised(NoMachine, fleet.start, thing, (APP,)), thing)
            self.assertIsNotNone(raised(NoMachine, fleet.start, thing, None))
            self.assertIsNotNone(raised(NoMachine, fleet.stop, thing, ("lib",)))
            self.assertIsNotNone(raised(NoMachine, fleet.stop, thing, None))
            self.assertIsNotNone(raised(NoMachine, fleet.runs, thing))
        for thing in [one for one in ODD if one != ()] + [(LIB,), [APP], (NEW,), (("lib", (7, 0, 0), ()),), (GUI, LIB)]:
            self.assertIsNotNone(raised(NoStart, fleet.start, 0, thing))
        for thing in [one for one in ODD if one != ()] + [("app",), ["lib"], ("log", "lib"), "lib", ("kit", "lib")]:
            self.assertIsNotNone(raised(NoStop, fleet.stop, 0, thing))
        for thing in [(GUI,), (OLD,), (("app", (2, 0, 0), ()),)]:
            self.assertIsNotNone(raised(NotSafe, fleet.start, 0, thing))
        self.assertIsNotNone(raised(NotSafe, fleet.stop, 1, ("lib",)))
        self.assertIsNotNone(raised(NoStart, fleet.start, 1, (APP,)))
        self.assertEqual(state(fleet, 2, self.NAMES), before)

    def test_copies_go_on_apart(self):
        fleet = Fleet(BOOK, 2, BEGIN)
        fleet.stop(0, ("app",))
        other = fleet.copy()
        self.assertIsInstance(other, Fleet)
        before = state(fleet, 2, self.NAMES)
        self.assertEqual(state(other, 2, self.NAMES), before)
        other.stop(1, ("app",))
        other.start(0, (GUI, KIT))
        self.assertEqual(state(fleet, 2, self.NAMES), before)
        self.assertEqual(state(other, 2, self.NAMES), ([(GUI, KIT, LIB, LOG), (LIB, LOG)], [1, 1, 2, 2, 0], {"app": 0, "lib": 2, "log": 2}))
        later = state(other, 2, self.NAMES)
        fleet.stop(1, ("log",))
        fleet.stop(0, ("lib", "log"))
        self.assertEqual(state(other, 2, self.NAMES), later)
        self.assertEqual(fleet.least_served(), {"app": 1, "lib": 1, "log": 0})

    def test_drawn(self):
        dice = chance(91)
        seen = {}
        for book, safe in some_safe_worlds(dice, 25, 80):
            many = dice.randint(1, 4)
            begin = dice.choice(safe)
            fleet, plain = Fleet(book, many, begin), PlainFleet(book, many, begin)
            copies = []
            for _ in range(50):
                machine = dice.randrange(many)
                now = plain.machines[machine].now
                if dice.random() < 0.5:
                    move = ("start", tuple(triple for triple in dice.choice(safe) if triple[0] not in now or dice.random() < 0.1))
                else:
                    move = ("stop", tuple(sorted(dice.sample(NAMES, 1) if dice.random() < 0.2 else dice.sample(list(now), dice.randint(0, len(now))))))
                call = fleet.start if move[0] == "start" else fleet.stop
                wrong = plain.go(machine, move)
                seen[(move[0], wrong)] = seen.get((move[0], wrong), 0) + 1
                if wrong is None:
                    self.assertIsNone(call(machine, move[1]))
                else:
                    self.assertIsNotNone(raised(ERRORS[wrong], call, machine, move[1]))
                self.assertEqual(state(fleet, many), plain.state())
                if dice.random() < 0.1:
                    copies.append((fleet.copy(), state(fleet, many)))
            for other, then in copies:
                self.assertEqual(state(other, many), then)
        self.assertEqual(len(seen), 6)


class RolloutTest(unittest.TestCase):
    def check(self, book, old, new, many, least):
        """A rollout is told, and right, exactly where the tenth step says that there is one."""
        both = {triple[0] for triple in old} & {triple[0] for triple in new}
        if least == many and both & set(told_affected(book, old, new)):
            self.assertIsNotNone(raised(NoRollout, rollout, book, old, new, many, least))
            return None
        moves = rollout(book, old, new, many, least)
        self.assertIsInstance(moves, tuple)
        for machine, move in moves:
            self.assertIn(machine, range(many))
            self.assertIsInstance(move, tuple)
        self.assertTrue(told_rollout(book, old, new, many, least, moves))
        self.assertIs(is_rollout(book, old, new, many, least, moves), True)
        return moves

    def test_by_hand(self):
        for old, new in itertools.permutations([(), BEGIN, (APP, NEW), (GUI, KIT, LIB), (LOG,), (OLD,), (LIB, LOG), (APP, KIT, LIB, LOG)], 2):
            for many in (1, 2, 3):
                for least in range(many + 1):
                    self.check(BOOK, old, new, many, least)
        for many in range(1, 13):
            for least in (0, many - 1):
                self.assertIsNotNone(self.check(BOOK, BEGIN, (GUI, KIT, NEW), many, least))
            self.assertIsNone(self.check(BOOK, BEGIN, (GUI, KIT, NEW), many, many))
            self.assertIsNotNone(self.check(BOOK, (APP, LIB), (APP, KIT, LIB, LOG), many, many))
            self.assertIsNotNone(self.check(BOOK, (LOG,), (OLD,), many, many))
            self.assertEqual(rollout(BOOK, BEGIN, BEGIN, many, many), ())

    def test_what_is_alike_but_affected(self):
        """App is alike in both, but lib beneath it is not: with all machines to serve there is none."""
        self.assertIsNone(self.check(BOOK, (APP, LIB), (APP, NEW), 2, 2))
        self.assertIsNotNone(self.check(BOOK, (APP, LIB), (APP, NEW), 2, 1))

    def test_long_chains(self):
        book, _ = chain_book(40, features=())
        old, new = (tuple((numbered(k), (major, 0, 0), ()) for k in range(40)) for major in (1, 2))
        moves = rollout(book, old, new, 3, 2)
        self.assertEqual(len(moves), 3 * 80)
        self.assertIs(is_rollout(book, old, new, 3, 2, moves), True)
        self.assertIsNotNone(raised(NoRollout, rollout, book, old, new, 12, 12))
        self.assertIs(is_rollout(book, old, new, 12, 11, rollout(book, old, new, 12, 11)), True)

    def test_errors_in_order(self):
        for call, more in [(rollout, ()), (is_rollout, ((),)), (is_rollout, (None,))]:
            for thing in NOT_SAFE:
                for many, least in [(1, 0), (None, None)]:
                    self.assertIsNotNone(raised(NotSafe, call, BOOK, thing, BEGIN, many, least, *more))
                    self.assertIsNotNone(raised(NotSafe, call, BOOK, BEGIN, thing, many, least, *more))
            for thing in NO_NUMBERS + [0]:
                self.assertIsNotNone(raised(NoNumber, call, BOOK, BEGIN, (APP, NEW), thing, 0, *more))
                self.assertIsNotNone(raised(NoNumber, call, BOOK, BEGIN, (APP, NEW), thing, None, *more))
            for many in (1, 2, 12):
                for thing in NO_NUMBERS + [many + 1]:
                    self.assertIsNotNone(raised(NoNumber, call, BOOK, BEGIN, (APP, NEW), many, thing, *more), thing)
        self.assertIsNotNone(raised(NoRollout, rollout, BOOK, BEGIN, (APP, NEW), 2, 2))
        self.assertIs(is_rollout(BOOK, BEGIN, (APP, NEW), 2, 2, ()), False)

    def test_drawn(self):
        dice = chance(92)
        told = {True: 0, False: 0}
        for book, safe in some_safe_worlds(dice, 60, 300):
            for _ in range(8):
                many = dice.randint(1, 4)
                moves = self.check(book, dice.choice(safe), dice.choice(safe), many, dice.choice([0, 1, many - 1, many, many]))
                told[moves is None] += 1
        self.assertGreater(min(told.values()), 50)


class IsRolloutTest(unittest.TestCase):
    OLD, NEW = (APP, LIB, LOG), (GUI, KIT, NEW)

    def is_right(self, moves, many=2, least=1):
        return is_rollout(BOOK, self.OLD, self.NEW, many, least, moves)

    def test_other_things(self):
        moves = rollout(BOOK, self.OLD, self.NEW, 2, 1)
        self.assertIs(self.is_right(moves), True)
        for thing in ODD + [list(moves), moves[0], (moves,), moves[:-1], moves[1:], tuple(move for _, move in moves), changeover(BOOK, self.OLD, self.NEW)]:
            self.assertIs(self.is_right(thing), False)
        for thing in [[], None, {}, "", 0, False, [()]]:
            self.assertIs(is_rollout(BOOK, self.OLD, self.OLD, 2, 2, thing), False)
        self.assertIs(is_rollout(BOOK, self.OLD, self.OLD, 2, 2, ()), True)

    def test_bent_moves(self):
        moves = rollout(BOOK, self.OLD, self.NEW, 2, 1)
        for at, (machine, move) in enumerate(moves):
            bents = [thing for thing in ODD] + [(machine,), (machine, move, ()), [machine, move], (1 - machine, move), (2, move), (-1, move), (bool(machine), move), (None, move), (str(machine), move),
                     (machine, list(move)), (machine, move[:1]), (machine, (*move, ())), (machine, ("stop" if move[0] == "start" else "start", move[1])), (machine, (move[0].upper(), move[1])),
                     (machine, (move[0], list(move[1]))), (machine, (move[1], move[0])), (move, machine), (machine, ("start", ())), (machine, None), (machine, ())]
            for bent in bents + [(thing, move) for thing in ODD if thing not in (0, 1) or isinstance(thing, bool)] + [(machine, (move[0], thing)) for thing in ODD] + [(machine, (thing, move[1])) for thing in ODD]:
                self.assertIs(self.is_right(moves[:at] + (bent,) + moves[at + 1:]), False, bent)
            for bent in ODD + [None, (2, ("start", ())), (machine, ("go", ())), (machine, ("start", [])), (machine, ("stop", "")), (machine, ("stop",)), ((machine, ("stop", ())),)]:
                self.assertIs(self.is_right(moves[:at] + (bent,) + moves[at:]), False, bent)
            self.assertIs(self.is_right(moves[:at] + moves[at + 1:]), False)
            self.assertIs(self.is_right(moves[:at] + (moves[at],) + moves[at:]), False)
            self.assertIs(self.is_right(moves[:at] + ((machine, ("stop", ())),) + moves[at:]), True)

    def test_exchanged(self):
        moves = rollout(BOOK, self.OLD, self.NEW, 2, 1)
        right = 0
        for one, other in itertools.combinations(range(len(moves)), 2):
            bent = list(moves)
            bent[one], bent[other] = bent[other], bent[one]
            told = told_rollout(BOOK, self.OLD, self.NEW, 2, 1, bent)
            self.assertIs(self.is_right(tuple(bent)), told)
            right += told
        self.assertLess(right, len(moves))

    def test_all_stops_ahead_of_all_starts(self):
        for many in (2, 3, 5):
            moves = rollout(BOOK, self.OLD, self.NEW, many, 0)
            row = tuple(pair for pair in moves if pair[1][0] == "stop") + tuple(pair for pair in moves if pair[1][0] == "start")
            self.assertIs(self.is_right(row, many, 0), True)
            for least in range(1, many + 1):
                self.assertIs(self.is_right(row, many, least), False)

    def test_just_enough(self):
        """Two of four stand still at once: two serve, three do not."""
        stops = tuple((machine, ("stop", ("app", "lib", "log"))) for machine in range(4))
        starts = tuple((machine, ("start", self.NEW)) for machine in range(4))
        row = (*stops[:2], *starts[:2], *stops[2:], *starts[2:])
        for least in range(5):
            self.assertIs(self.is_right(row, 4, least), least <= 2)
            self.assertIs(self.is_right((*stops[:1], *starts[:1], *row[:1], *row[2:]), 4, least), False)

    def test_packages_that_are_not_in_both(self):
        """Log goes and kit comes: how many serve these does not count."""
        moves = (*[(machine, ("stop", ("log",))) for machine in range(3)], *[(machine, ("start", (KIT,))) for machine in range(3)])
        self.assertIs(is_rollout(BOOK, self.OLD, (APP, KIT, LIB), 3, 3, moves), True)
        self.assertIs(is_rollout(BOOK, self.OLD, (APP, KIT, LIB, LOG), 3, 3, moves), False)

    def test_drawn(self):
        dice = chance(93)
        told = {True: 0, False: 0}
        for book, safe in some_safe_worlds(dice, 30, 300):
            for _ in range(6):
                old, new = dice.choice(safe), dice.choice(safe)
                many = dice.randint(1, 3)
                least = dice.randint(0, many)
                moves = rollout(book, old, new, many, 0)
                others = [(dice.randrange(many), ("start", ())), (dice.randrange(many), ("start", new[:1]))]
                for _ in range(6):
                    bent = bent_moves(dice, moves, others)
                    right = told_rollout(book, old, new, many, least, bent)
                    told[right] += 1
                    self.assertIs(is_rollout(book, old, new, many, least, bent), right)
        self.assertGreater(min(told.values()), 100)


if __name__ == "__main__":
    unittest.main()
