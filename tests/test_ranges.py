"""Promises 1.1, 1.2 and 1.3: versions, ranges and their texts."""

import itertools
import unittest

from lockwright.errors import BadText
from lockwright.ranges import (
    both, either, has, is_part, is_range, is_version, least_of, outside, range_text, read_range, version_text,
)
from samples import EVERY, branching, chance, nested, odd_things, odd_tuples, raised, some_range

TOP = 1000000
SMALL = list(itertools.product(range(4), repeat=3))


def held(rng):
    """Which of a few versions a range has, told apart from the program."""
    return [v for v in SMALL if any(low <= v and (high is None or v < high) for low, high in rng)]


class VersionTest(unittest.TestCase):
    def test_versions(self):
        for thing in [(0, 0, 0), (1, 2, 3), (TOP, TOP, TOP), (0, TOP, 0)]:
            self.assertIs(is_version(thing), True)

    def test_no_versions(self):
        for thing in [
            (), (1,), (1, 2), (1, 2, 3, 4), (-1, 0, 0), (0, -1, 0), (0, 0, -1), (TOP + 1, 0, 0), (0, TOP + 1, 0),
            (0, 0, TOP + 1), (True, 0, 0), (0, False, 0), (0, 0, True), [1, 2, 3], "1.2.3", b"abc", (1, 2, "3"),
            (1, 2, None), (1, 2, (3,)), {1: 1, 2: 2, 3: 3}, range(3),
        ]:
            with self.subTest(thing=thing):
                self.assertIs(is_version(thing), False)

    def test_anything_is_judged(self):
        for thing in odd_things() + odd_tuples() + [nested(40), branching(40), (nested(39), 0, 0)]:
            self.assertIs(is_version(thing), False)
            self.assertIs(is_version((0, 0, thing)), thing == 0 and thing is not False or thing == 1 and thing is not True
                          if isinstance(thing, int) else False)


class RangeTest(unittest.TestCase):
    def test_ranges(self):
        for thing in [
            (), EVERY, (((0, 0, 0), (0, 0, 1)),), (((1, 0, 0), None),), (((TOP, TOP, TOP), None),),
            (((0, 0, 0), (TOP, TOP, TOP)),), (((0, 0, 0), (0, 0, 1)), ((0, 0, 2), (0, 0, 3)), ((0, 0, 4), None)),
            (((0, 0, TOP), (0, 1, 0)),),
        ]:
            with self.subTest(thing=thing):
                self.assertIs(is_range(thing), True)

    def test_no_ranges(self):
        one = ((0, 0, 0), (0, 0, 1))
        for thing in [
            None, [], [one], (list(one),), (one, one), one, ((0, 0, 0), None),
            (((0, 0, 1), (0, 0, 1)),), (((0, 0, 2), (0, 0, 1)),), ((None, (0, 0, 1)),), ((None, None),),
            (one, ((0, 0, 1), (0, 0, 2))), (((0, 0, 2), (0, 0, 3)), one), (((0, 0, 0), (0, 0, 3)), ((0, 0, 2), None)),
            (((0, 0, 0), None), ((0, 0, 2), None)), (((0, 0, 0), None), ((0, 0, 2), (0, 0, 3))), (one, None), (None, one),
            (((0, 0, 0), (0, 0, TOP + 1)),), (((0, 0), None),), (((0, 0, False), None),), (((0, 0, 0), (0, 0, True)),),
            (([0, 0, 0], None),), (((0, 0, 0), [0, 0, 1]),), (((0, 0, 0),),), (((0, 0, 0), (0, 0, 1), (0, 0, 2)),),
            (((0, 0, 0), False),), (((0, 0, 0), ()),), "*", (one, "ab"),
        ]:
            with self.subTest(thing=thing):
                self.assertIs(is_range(thing), False)

    def test_anything_is_judged(self):
        for thing in odd_things() + odd_tuples() + [nested(40), branching(40)]:
            self.assertIs(is_range(thing), False)
            self.assertIs(is_range(((thing, None),)), False)
            self.assertIs(is_range((((0, 0, 0), thing),)), thing is None)
            self.assertIs(is_range((((0, 0, 0), (0, 0, 1)), thing)), False)

    def test_has_at_the_ends(self):
        rng = (((1, 0, 0), (2, 0, 0)), ((3, 0, 5), (3, 0, 6)), ((4, 0, 0), None))
        for version in [(1, 0, 0), (1, 0, 1), (1, TOP, TOP), (3, 0, 5), (4, 0, 0), (TOP, TOP, TOP)]:
            self.assertIs(has(rng, version), True)
        for version in [(0, 0, 0), (0, TOP, TOP), (2, 0, 0), (2, 0, 1), (3, 0, 4), (3, 0, 6), (3, TOP, TOP)]:
            self.assertIs(has(rng, version), False)
        self.assertIs(has((), (0, 0, 0)), False)
        self.assertIs(has(EVERY, (0, 0, 0)), True)
        self.assertIs(has(EVERY, (TOP, TOP, TOP)), True)
        self.assertIs(has((((0, 0, 0), (TOP, TOP, TOP)),), (TOP, TOP, TOP)), False)


class AlgebraTest(unittest.TestCase):
    LOW = (((0, 0, 0), (1, 0, 0)),)
    MID = (((1, 0, 0), (2, 0, 0)),)
    FAR = (((3, 0, 0), None),)
    WIDE = (((0, 5, 0), (3, 5, 0)),)

    def test_both(self):
        self.assertEqual(both(self.LOW, self.MID), ())
        self.assertEqual(both(self.LOW, self.WIDE), (((0, 5, 0), (1, 0, 0)),))
        self.assertEqual(both(self.WIDE, self.FAR), (((3, 0, 0), (3, 5, 0)),))
        self.assertEqual(both(self.MID, self.WIDE), self.MID)
        self.assertEqual(both(self.MID, ()), ())
        self.assertEqual(both((), ()), ())
        self.assertEqual(both(EVERY, self.FAR), self.FAR)
        self.assertEqual(both(self.FAR, (((4, 0, 0), None),)), (((4, 0, 0), None),))
        self.assertEqual(both(EVERY, EVERY), EVERY)

    def test_either(self):
        self.assertEqual(either(self.LOW, self.MID), (((0, 0, 0), (2, 0, 0)),))
        self.assertEqual(either(self.MID, self.LOW), (((0, 0, 0), (2, 0, 0)),))
        self.assertEqual(either(self.LOW, self.FAR), self.LOW + self.FAR)
        self.assertEqual(either(self.FAR, self.LOW), self.LOW + self.FAR)
        self.assertEqual(either(self.MID, self.WIDE), self.WIDE)
        self.assertEqual(either(self.WIDE, self.FAR), (((0, 5, 0), None),))
        self.assertEqual(either(self.LOW + self.FAR, self.WIDE), EVERY)
        self.assertEqual(either((), ()), ())
        self.assertEqual(either((), self.MID), self.MID)
        self.assertEqual(either(self.FAR, EVERY), EVERY)
        self.assertEqual(either((((0, 0, 0), (0, 0, TOP)),), (((0, 1, 0), None),)),
                         (((0, 0, 0), (0, 0, TOP)), ((0, 1, 0), None)))

    def test_outside(self):
        self.assertEqual(outside(()), EVERY)
        self.assertEqual(outside(EVERY), ())
        self.assertEqual(outside(self.LOW), (((1, 0, 0), None),))
        self.assertEqual(outside(self.FAR), (((0, 0, 0), (3, 0, 0)),))
        self.assertEqual(outside(self.MID + self.FAR), (((0, 0, 0), (1, 0, 0)), ((2, 0, 0), (3, 0, 0))))
        self.assertEqual(outside(self.LOW + self.FAR), (((1, 0, 0), (3, 0, 0)),))

    def test_is_part(self):
        self.assertIs(is_part(self.MID, self.WIDE), True)
        self.assertIs(is_part(self.WIDE, self.MID), False)
        self.assertIs(is_part(self.MID, self.MID), True)
        self.assertIs(is_part((), self.MID), True)
        self.assertIs(is_part((), ()), True)
        self.assertIs(is_part(self.MID, ()), False)
        self.assertIs(is_part(self.FAR, EVERY), True)
        self.assertIs(is_part(EVERY, self.LOW + self.MID + self.FAR), False)
        self.assertIs(is_part(self.LOW, self.MID), False)
        self.assertIs(is_part(self.LOW + self.FAR, self.LOW), False)
        self.assertIs(is_part(self.FAR, (((3, 0, 0), (TOP, TOP, TOP)),)), False)

    def test_is_part_judges_anything(self):
        for thing in odd_things() + odd_tuples() + [nested(40), branching(40)]:
            self.assertIs(is_part(self.MID, thing), False)
            self.assertIs(is_part((), thing), False)

    def test_least_of(self):
        self.assertIsNone(least_of(()))
        self.assertEqual(least_of(EVERY), (0, 0, 0))
        self.assertEqual(least_of(self.MID + self.FAR), (1, 0, 0))
        self.assertEqual(least_of((((0, 0, 7), (0, 0, 8)),)), (0, 0, 7))

    def test_algebra_is_that_of_lots(self):
        dice = chance(1)
        for _ in range(600):
            one, other = some_range(dice), some_range(dice)
            for made in [both(one, other), either(one, other), outside(one)]:
                self.assertIs(is_range(made), True)
            self.assertEqual(held(both(one, other)), [v for v in SMALL if v in held(one) and v in held(other)])
            self.assertEqual(held(either(one, other)), [v for v in SMALL if v in held(one) or v in held(other)])
            self.assertEqual(held(outside(one)), [v for v in SMALL if v not in held(one)])
            self.assertEqual(held(one), [v for v in SMALL if has(one, v)])
            self.assertIs(is_part(one, other), all(v in held(other) for v in held(one)))
            self.assertEqual(least_of(one), min(held(one), default=None))

    def test_first_step(self):
        dice = chance(2)
        ranges = [some_range(dice, 1) for _ in range(60)] + [(), EVERY]
        for one, other in itertools.product(ranges, repeat=2):
            self.assertEqual(held(one) == held(other), one == other)
        for one, other in itertools.product(ranges[:30], repeat=2):
            self.assertEqual(outside(both(one, other)), either(outside(one), outside(other)))
            self.assertEqual(outside(outside(one)), one)
            self.assertEqual(either(both(one, other), both(one, outside(other))), one)


class ReadRangeTest(unittest.TestCase):
    def test_each_form(self):
        for text, rng in [
            ("*", EVERY),
            ("1.2.3", (((1, 2, 3), (1, 2, 4)),)),
            ("0.0.0", (((0, 0, 0), (0, 0, 1)),)),
            ("!1.2.3", (((0, 0, 0), (1, 2, 3)), ((1, 2, 4), None))),
            ("!0.0.0", (((0, 0, 1), None),)),
            ("<1.2.3", (((0, 0, 0), (1, 2, 3)),)),
            ("<0.0.0", ()),
            ("<0.0.1", (((0, 0, 0), (0, 0, 1)),)),
            ("<=1.2.3", (((0, 0, 0), (1, 2, 4)),)),
            ("<=0.0.0", (((0, 0, 0), (0, 0, 1)),)),
            (">1.2.3", (((1, 2, 4), None),)),
            (">0.0.0", (((0, 0, 1), None),)),
            (">=1.2.3", (((1, 2, 3), None),)),
            (">=0.0.0", EVERY),
            ("^1.2.3", (((1, 2, 3), (2, 0, 0)),)),
            ("^0.2.3", (((0, 2, 3), (0, 3, 0)),)),
            ("^0.0.3", (((0, 0, 3), (0, 0, 4)),)),
            ("^0.0.0", (((0, 0, 0), (0, 0, 1)),)),
            ("^0.1.0", (((0, 1, 0), (0, 2, 0)),)),
            ("^0.0.1", (((0, 0, 1), (0, 0, 2)),)),
            ("^1.0.0", (((1, 0, 0), (2, 0, 0)),)),
            ("~1.2.3", (((1, 2, 3), (1, 3, 0)),)),
            ("~0.0.0", (((0, 0, 0), (0, 1, 0)),)),
            ("~0.0.5", (((0, 0, 5), (0, 1, 0)),)),
        ]:
            with self.subTest(text=text):
                self.assertEqual(read_range(text), rng)

    def test_at_the_greatest_number(self):
        top = (TOP, TOP, TOP)
        for text, rng in [
            ("<1000000.1000000.1000000", (((0, 0, 0), top),)),
            (">=1000000.1000000.1000000", ((top, None),)),
            ("1000000.1000000.999999", (((TOP, TOP, TOP - 1), top),)),
            ("<=1000000.1000000.999999", (((0, 0, 0), top),)),
            (">1000000.1000000.999999", ((top, None),)),
            ("!1000000.1000000.999999", (((0, 0, 0), (TOP, TOP, TOP - 1)), (top, None))),
            ("^999999.1000000.1000000", (((TOP - 1, TOP, TOP), (TOP, 0, 0)),)),
            ("^0.999999.1000000", (((0, TOP - 1, TOP), (0, TOP, 0)),)),
            ("^0.0.999999", (((0, 0, TOP - 1), (0, 0, TOP)),)),
            ("~1000000.999999.1000000", (((TOP, TOP - 1, TOP), (TOP, TOP, 0)),)),
        ]:
            with self.subTest(text=text):
                self.assertEqual(read_range(text), rng)
        for text in [
            "1.2.1000000", "!1.2.1000000", "<=1.2.1000000", ">1.2.1000000", "^1000000.0.0", "^0.1000000.0",
            "^0.0.1000000", "~1.1000000.0", "1000000.1000000.1000000", ">1000000.1000000.1000000",
        ]:
            with self.subTest(text=text):
                self.assertEqual(raised(BadText, read_range, text).index, 0)

    def test_together(self):
        for text, rng in [
            ("^1.2.0, !1.5.0 | 0.0.7", (((0, 0, 7), (0, 0, 8)), ((1, 2, 0), (1, 5, 0)), ((1, 5, 1), (2, 0, 0)))),
            (">=1.0.0, <2.0.0", (((1, 0, 0), (2, 0, 0)),)),
            ("<1.0.0, >=2.0.0", ()),
            ("*, *", EVERY),
            ("* | 1.0.0", EVERY),
            ("1.0.0 | 1.0.1", (((1, 0, 0), (1, 0, 2)),)),
            ("2.0.0 | 1.0.0", (((1, 0, 0), (1, 0, 1)), ((2, 0, 0), (2, 0, 1)))),
            ("<1.0.0 | >=1.0.0", EVERY),
            ("<0.0.0 | <0.0.0", ()),
            (">1.0.0, <=1.0.3, !1.0.2", (((1, 0, 1), (1, 0, 2)), ((1, 0, 3), (1, 0, 4)))),
            ("!1.0.0, !2.0.0 | 1.0.0", (((0, 0, 0), (2, 0, 0)), ((2, 0, 1), None))),
        ]:
            with self.subTest(text=text):
                self.assertEqual(read_range(text), rng)

    def test_no_string(self):
        for thing in [None, 1, b"*", ["*"], ("*",), EVERY, (), True, nested(40), branching(40), {}]:
            self.assertEqual(raised(BadText, read_range, thing).index, -1)

    def test_first_wrong_part(self):
        for text, index in [
            ("", 0), (" ", 0), ("x", 0), ("1", 0), ("1.2", 0), ("1.2.3.4", 0), ("1.2.", 0), (".1.2", 0), ("1..2", 0),
            ("01.2.3", 0), ("1.02.3", 0), ("1.2.00", 0), ("1.2.03", 0), ("1000001.0.0", 0), (">=0.1000001.0", 0),
            ("<0.0.1000001", 0), ("<10000000.0.0", 0), ("9" * 30000 + ".0.0", 0), ("-1.0.0", 0), ("+1.0.0", 0),
            ("1.0.-1", 0), ("1.0.1 ", 0), (" 1.0.1", 0), ("1. 0.1", 0), ("> 1.0.1", 0), ("=1.0.1", 0), ("==1.0.1", 0),
            ("=<1.0.1", 0), ("!=1.0.1", 0), ("<>1.0.1", 0), (">>1.0.1", 0), ("<", 0), ("!", 0), ("^", 0), ("~", 0), ("!*", 0),
            ("**", 0), ("^*", 0), ("1.0.x", 0), ("1.0.*", 0), ("v1.0.0", 0), ("1_0.0.0", 0), ("1.0.0\n", 0), ("(*)", 0),
            ("*,*", 0), ("* ,*", 0), ("*,", 0), ("*|*", 0), ("* |*", 0), ("*| *", 0), ("*  | *", 0), ("* |", 0),
            (", *", 0), (" | *", 0), ("|", 0), (",", 0), ("* || *", 0),
            ("*, ", 1), ("*,  *", 1), ("* | ", 1), ("* |  *", 1), ("*, x", 1), ("* | x", 1), ("*, , *", 1), ("* |  | *", 1),
            ("*, 1.0.0 | x", 2), ("* | *, x", 2), ("*, * | *, * | *, 1.0.1000000", 5), ("* | * | * | 1.0.00, x", 3),
            ("\u0661.0.0", 0), ("\u00b2.0.0", 0), ("*, x | y", 1), ("* | x | y", 1), ("1.0.0, ^0.0.1000000 | *", 1),
        ]:
            with self.subTest(text=text[:40]):
                self.assertEqual(raised(BadText, read_range, text).index, index)

    def test_long_texts(self):
        text = ", ".join(f"!0.0.{k}" for k in range(0, 8000, 2))
        self.assertEqual(len(read_range(text)), 4000)
        text = " | ".join(f"0.0.{k}" for k in range(0, 8000, 2))
        self.assertEqual(len(read_range(text)), 4000)


class RangeTextTest(unittest.TestCase):
    def test_texts(self):
        for rng, text in [
            ((), "<0.0.0"), (EVERY, "*"), ((((1, 2, 3), None),), ">=1.2.3"), ((((0, 0, 1), None),), ">=0.0.1"),
            ((((1, 2, 3), (1, 2, 4)),), "1.2.3"), ((((1, 2, 3), (1, 2, 5)),), ">=1.2.3, <1.2.5"),
            ((((0, 0, 0), (0, 0, 1)),), "0.0.0"), ((((0, 0, 0), (1, 0, 0)),), ">=0.0.0, <1.0.0"),
            ((((0, 0, TOP), (0, 1, 0)),), ">=0.0.1000000, <0.1.0"), ((((0, 0, TOP - 1), (0, 0, TOP)),), "0.0.999999"),
            ((((1, 0, 0), (2, 0, 0)), ((3, 0, 0), (3, 0, 1)), ((4, 0, 0), None)), ">=1.0.0, <2.0.0 | 3.0.0 | >=4.0.0"),
            ((((0, 0, 0), (0, 0, 1)), ((2, 0, 0), None)), "0.0.0 | >=2.0.0"),
            ((((1, 2, 3), (1, 3, 4)),), ">=1.2.3, <1.3.4"), ((((1, 2, 3), (2, 2, 4)),), ">=1.2.3, <2.2.4"),
            (outside(read_range("<2.0.0")), ">=2.0.0"),
        ]:
            with self.subTest(text=text):
                self.assertEqual(range_text(rng), text)
                self.assertEqual(read_range(text), rng)

    def test_there_and_back(self):
        dice = chance(3)
        for most in [1, 2, TOP]:
            for _ in range(300):
                rng = some_range(dice, most)
                self.assertEqual(read_range(range_text(rng)), rng)

    def test_version_text(self):
        self.assertEqual(version_text((0, 0, 0)), "0.0.0")
        self.assertEqual(version_text((1, 20, 300)), "1.20.300")
        self.assertEqual(version_text((TOP, TOP, TOP)), "1000000.1000000.1000000")


if __name__ == "__main__":
    unittest.main()
