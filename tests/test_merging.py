"""Promise 15.1: questions that were edited apart, merged."""

import unittest

from lockwright.errors import TooMany
from lockwright.merging import merged
from lockwright.questions import Question, read_question
from lockwright.ranges import read_range
from samples import chance, raised

NONE = Question((), ())
NAMES = ("a", "b", "c", "d", "e")
KINDS = [(), ("*",), ("1.0.0",), ("*", "1.0.0"), ("1.0.0", "*"), ("*", "*")]


def question(**rows):
    """A question with wishes by package, told as ranges, in the order in which they are passed."""
    return Question(tuple((name, read_range(text), ()) for name, texts in rows.items() for text in texts), ())


def locked(**rows):
    return Question((), tuple((name, (number, 0, 0)) for name, number in sorted(rows.items())))


def rows_of(rows, name):
    return tuple(row for row in rows if row[0] == name)


def one_side(base, mine, theirs):
    """What is left of one package, "clash" for a clash, by what the document says."""
    left = set()
    if mine == base:
        left.add(theirs)
    if theirs == base:
        left.add(mine)
    if mine == theirs:
        left.add(mine)
    assert len(left) < 2
    return left.pop() if left else "clash"


def told_merged(base, mine, theirs):
    found = {}
    for kind, sides in [("wish", (base.wishes, mine.wishes, theirs.wishes)), ("lock", (base.locks, mine.locks, theirs.locks))]:
        names = []
        for side in sides:
            names += [row[0] for row in side if row[0] not in names]
        found[kind] = {name: one_side(*[rows_of(side, name) for side in sides]) for name in names}
        clashes = sorted(name for name in names if found[kind][name] == "clash")
        if clashes:
            found["clash"] = found.get("clash", ("clash", kind, clashes[0]))
    if "clash" in found:
        return found["clash"]
    wishes = tuple(row for rows in found["wish"].values() for row in rows)
    locks = tuple(sorted(row for rows in found["lock"].values() for row in rows))
    for most, rows in [(8, wishes), (40, locks)]:
        if len(rows) > most:
            return most
    return ("merged", Question(wishes, locks))


def some_question(dice, near=None):
    """A question, perhaps one that was made of another by few edits."""
    if near is None:
        rows = {name: dice.choice(KINDS) for name in dice.sample(NAMES, 3)}
        locks = {name: dice.randint(1, 3) for name in NAMES if dice.random() < 0.4}
    else:
        rows = {name: tuple("*" if rng == read_range("*") else "1.0.0" for again, rng, _ in near.wishes if again == name) for name in dict.fromkeys(row[0] for row in near.wishes)}
        locks = {name: version[0] for name, version in near.locks}
        for _ in range(dice.randint(0, 2)):
            rows[dice.choice(NAMES)] = dice.choice(KINDS)
        for _ in range(dice.randint(0, 1)):
            locks[dice.choice(NAMES)] = dice.randint(1, 3)
        if locks and dice.random() < 0.3:
            locks.pop(dice.choice(sorted(locks)))
    wishes = [(name, read_range(text), ()) for name, texts in rows.items() for text in texts][:8]
    if dice.random() < 0.3:
        dice.shuffle(wishes)
    return Question(tuple(wishes), tuple((name, (number, 0, 0)) for name, number in sorted(locks.items())))


class MergedTest(unittest.TestCase):
    def check(self, base, mine, theirs, wanted):
        self.assertEqual(merged(base, mine, theirs), ("merged", wanted))
        self.assertIs(type(merged(base, mine, theirs)), tuple)

    def clash(self, base, mine, theirs, kind, name):
        self.assertEqual(merged(base, mine, theirs), ("clash", kind, name))
        self.assertEqual(merged(base, theirs, mine), ("clash", kind, name))

    def test_wishes(self):
        base = question(app=["*"], lib=["1.0.0"])
        self.check(base, base, base, base)
        self.check(NONE, NONE, NONE, NONE)
        for other in [NONE, question(app=["*"]), question(app=["2.0.0"], lib=["1.0.0"]), question(app=["*"], lib=["1.0.0"], kit=["*"]), question(kit=["*"]), question(app=["*", "*"], lib=["1.0.0"])]:
            self.check(base, other, base, other)
            self.check(base, base, other, other)
            self.check(base, other, other, other)
        self.check(base, question(app=["2.0.0"], lib=["1.0.0"]), question(app=["*"], kit=["*"]), question(app=["2.0.0"], kit=["*"]))
        self.check(base, question(lib=["1.0.0"]), question(app=["*"]), NONE)
        self.check(base, question(app=["*"], lib=["2.0.0"]), question(app=["3.0.0"], lib=["2.0.0"]), question(app=["3.0.0"], lib=["2.0.0"]))
        self.check(NONE, question(app=["*"]), question(lib=["*"]), question(app=["*"], lib=["*"]))
        self.check(NONE, question(app=["*"]), question(app=["*"]), question(app=["*"]))

    def test_features_count(self):
        one, other = read_question("wish app (*) with f\n"), read_question("wish app (*) with g\n")
        plain = read_question("wish app (*)\n")
        self.check(plain, one, plain, one)
        self.check(one, one, plain, plain)
        self.clash(plain, one, other, "wish", "app")

    def test_several_wishes_of_one_package(self):
        base = question(app=["*", "1.0.0"])
        self.check(base, question(app=["1.0.0", "*"]), base, question(app=["1.0.0", "*"]))
        self.clash(base, question(app=["1.0.0", "*"]), question(app=["*"]), "wish", "app")
        self.clash(base, question(app=["*"]), question(app=["1.0.0"]), "wish", "app")
        self.check(base, question(app=["1.0.0"]), question(app=["1.0.0"]), question(app=["1.0.0"]))
        # They stand together, wherever they stood.
        apart = read_question("wish app (*)\nwish lib (*)\nwish app (1.0.0)\n")
        self.check(apart, apart, apart, question(app=["*", "1.0.0"], lib=["*"]))
        self.check(base, apart, base, question(app=["*", "1.0.0"], lib=["*"]))

    def test_the_order_of_packages(self):
        base = question(m=["*"], c=["*"])
        mine = question(z=["*"], c=["*"], b=["*"], m=["2.0.0"])
        theirs = question(y=["*"], b=["*"], a=["*"], m=["*"], c=["*"])
        self.check(base, mine, theirs, question(m=["2.0.0"], c=["*"], z=["*"], b=["*"], y=["*"], a=["*"]))
        self.check(base, theirs, mine, question(m=["2.0.0"], c=["*"], y=["*"], b=["*"], a=["*"], z=["*"]))
        self.check(NONE, question(b=["*"], a=["*"]), NONE, question(b=["*"], a=["*"]))
        self.check(NONE, NONE, question(b=["*"], a=["*"]), question(b=["*"], a=["*"]))
        self.check(question(b=["*"], a=["*"]), question(a=["*"], b=["*"]), question(a=["*"], b=["*"]), question(b=["*"], a=["*"]))
        # What one side left out is not there, whatever its place was.
        self.check(question(a=["*"], b=["*"]), question(b=["*"]), question(c=["*"], b=["*"], a=["*"]), question(b=["*"], c=["*"]))

    def test_locks(self):
        base = locked(app=1, lib=1)
        self.check(base, base, base, base)
        for other in [NONE, locked(app=1), locked(app=2, lib=1), locked(app=1, kit=3, lib=1), locked(zoo=1)]:
            self.check(base, other, base, other)
            self.check(base, base, other, other)
            self.check(base, other, other, other)
        self.check(base, locked(app=2, lib=1), locked(app=1, kit=1), locked(app=2, kit=1))
        self.check(NONE, locked(z=1, b=2), locked(a=1, y=2, b=2), locked(a=1, b=2, y=2, z=1))
        self.clash(base, locked(app=2, lib=1), locked(app=3, lib=1), "lock", "app")
        self.clash(base, locked(lib=1), locked(app=3, lib=1), "lock", "app")
        self.clash(NONE, locked(zoo=1), locked(zoo=2), "lock", "zoo")

    def test_clashes(self):
        self.clash(question(app=["*"]), NONE, question(app=["2.0.0"]), "wish", "app")
        self.clash(NONE, question(app=["*"]), question(app=["2.0.0"]), "wish", "app")
        base = question(m=["*"], c=["*"], z=["*"])
        self.clash(base, question(m=["1.0.0"], z=["1.0.0"], c=["1.0.0"]), question(z=["2.0.0"], m=["2.0.0"], c=["2.0.0"]), "wish", "c")
        self.clash(base, question(m=["1.0.0"], z=["1.0.0"], c=["*"]), question(z=["2.0.0"], m=["2.0.0"], c=["2.0.0"]), "wish", "m")
        self.clash(NONE, locked(x=1, y=1, b=1), locked(x=1, y=2, b=3), "lock", "b")
        mine, theirs = Question(question(z=["*"]).wishes, locked(a=1).locks), Question(question(z=["1.0.0"]).wishes, locked(a=2).locks)
        self.clash(NONE, mine, theirs, "wish", "z")
        self.clash(NONE, Question(mine.wishes, mine.locks), Question(mine.wishes, theirs.locks), "lock", "a")

    def test_too_many(self):
        def wishes(names, many=1):
            return question(**{name: ["*"] * many for name in names})
        def locks(first, many, number=1):
            return Question((), tuple((chr(97 + k // 26) + chr(97 + k % 26), (number, 0, 0)) for k in range(first, first + many)))
        self.assertEqual(len(merged(NONE, wishes("abcd"), wishes("efgh"))[1].wishes), 8)
        self.assertEqual(len(merged(NONE, wishes("abcd", 2), wishes("abcd", 2))[1].wishes), 8)
        for mine, theirs in [(wishes("abcd"), wishes("efghi")), (wishes("abcdefgh"), wishes("z")), (wishes("abcd", 2), wishes("z")), (wishes("abcd"), wishes("efgh", 2))]:
            self.assertEqual(raised(TooMany, merged, NONE, mine, theirs).most, 8)
        self.assertEqual(len(merged(NONE, locks(0, 20), locks(20, 20))[1].locks), 40)
        self.assertEqual(len(merged(NONE, locks(0, 40), locks(0, 40))[1].locks), 40)
        for mine, theirs in [(locks(0, 20), locks(20, 21)), (locks(0, 40), locks(40, 1)), (locks(0, 40), locks(40, 40))]:
            self.assertEqual(raised(TooMany, merged, NONE, mine, theirs).most, 40)
        mine, theirs = Question(wishes("abcde").wishes, locks(0, 40).locks), Question(wishes("fghi").wishes, locks(40, 1).locks)
        self.assertEqual(raised(TooMany, merged, NONE, mine, theirs).most, 8)
        # Clashes go ahead of both, those of locks, too.
        theirs = Question(theirs.wishes, locks(1, 40, 2).locks)
        self.clash(NONE, mine, theirs, "lock", "ab")
        theirs = Question(question(a=["1.0.0"], f=["*"], g=["*"], h=["*"], i=["*"]).wishes, theirs.locks)
        self.clash(NONE, mine, theirs, "wish", "a")
        self.clash(NONE, wishes("abcdefgh"), question(h=["1.0.0"], z=["*"]), "wish", "h")
        # What was left out makes room.
        self.assertEqual(len(merged(wishes("abcdefgh"), wishes("bcdefgh"), wishes("abcdefgh"))[1].wishes), 7)
        self.assertEqual(len(merged(wishes("abcdefg"), wishes("bcdefgy"), wishes("acdefgz"))[1].wishes), 7)

    def test_nothing_is_changed(self):
        sides = [question(app=["*"], lib=["1.0.0"]), question(lib=["1.0.0"], kit=["*"]), question(app=["2.0.0"], lib=["1.0.0"])]
        before = [Question(side.wishes, side.locks) for side in sides]
        self.assertEqual(merged(*sides), merged(*sides))
        self.assertEqual(sides, before)


class ElevenStepTest(unittest.TestCase):
    def packages(self, wishes):
        return {name: rows_of(wishes, name) for name in {row[0] for row in wishes}}

    def test_drawn(self):
        dice = chance(101)
        seen = {}
        for _ in range(3000):
            base = some_question(dice)
            mine, theirs = some_question(dice, base), some_question(dice, base) if dice.random() < 0.9 else some_question(dice)
            wanted = told_merged(base, mine, theirs)
            kind = wanted if isinstance(wanted, int) else wanted[:2] if wanted[0] == "clash" else wanted[0]
            seen[kind] = seen.get(kind, 0) + 1
            if isinstance(wanted, int):
                self.assertEqual(raised(TooMany, merged, base, mine, theirs).most, wanted)
                self.assertEqual(raised(TooMany, merged, base, theirs, mine).most, wanted)
                continue
            self.assertEqual(merged(base, mine, theirs), wanted)
            other = merged(base, theirs, mine)
            if wanted[0] == "clash":
                self.assertEqual(other, wanted)
                continue
            self.assertEqual((self.packages(other[1].wishes), other[1].locks), (self.packages(wanted[1].wishes), wanted[1].locks))
            for sides in [(base, base, mine), (base, mine, base)]:
                told = merged(*sides)[1]
                self.assertEqual((self.packages(told.wishes), told.locks), (self.packages(mine.wishes), mine.locks))
        self.assertGreater(seen["merged"], 500)
        self.assertGreater(seen[("clash", "wish")], 200)
        self.assertGreater(seen[("clash", "lock")], 100)
        self.assertGreater(seen[8], 3)


if __name__ == "__main__":
    unittest.main()
