"""Promise 0.3: the error classes."""

import unittest

from lockwright import errors
from samples import branching, nested, odd_things

WITH_FIELD = {
    "BadText": "index", "BadEntry": "part", "BadBook": "index", "BadLine": "number", "BadQuestion": "part",
    "BadTask": "part", "BadStep": "number", "TooMany": "most", "NotFitting": "source", "NotGiven": "literal",
    "NotFirst": "place", "NotFetched": "pair", "NoBuild": "name", "Ringed": "names",
}
WITHOUT_FIELD = [
    "NoFeatures", "NoEntry", "NotRight", "NotThere", "NotClosed", "NoSource", "NoStand", "NoGivens", "NoLiteral",
    "NoPaper", "NoSources", "NoName", "NoNumber", "NotEntry", "NotQuestion", "NothingDone", "NoText", "NoStart",
    "NoStop", "NotSafe", "NoDeed", "NoContents", "NoMirrors", "NoManifest", "NoMachine", "NoRollout",
]


class ErrorsTest(unittest.TestCase):
    def test_descent(self):
        self.assertEqual(errors.LockError.__bases__, (ValueError,))
        for name in list(WITH_FIELD) + WITHOUT_FIELD:
            with self.subTest(name=name):
                self.assertEqual(getattr(errors, name).__bases__, (errors.LockError,))

    def test_nothing_else_is_defined(self):
        defined = {name for name, thing in vars(errors).items() if isinstance(thing, type)}
        self.assertEqual(defined, set(WITH_FIELD) | set(WITHOUT_FIELD) | {"LockError"})

    def test_field_is_kept_whatever_it_is(self):
        for name, field in WITH_FIELD.items():
            for thing in odd_things() + [("need", 3), (), nested(40), branching(40), "text"]:
                with self.subTest(name=name, thing=str(thing)[:40] if not isinstance(thing, tuple) else "tuple"):
                    error = getattr(errors, name)(thing)
                    self.assertIs(getattr(error, field), thing)
                    self.assertEqual(list(vars(error)), [field])

    def test_made_with_just_these(self):
        for name in WITH_FIELD:
            with self.subTest(name=name):
                with self.assertRaises(TypeError):
                    getattr(errors, name)()
                with self.assertRaises(TypeError):
                    getattr(errors, name)(1, 2)
        for name in WITHOUT_FIELD:
            with self.subTest(name=name):
                self.assertEqual(vars(getattr(errors, name)()), {})
                with self.assertRaises(TypeError):
                    getattr(errors, name)(1)

    def test_raised_and_caught(self):
        for name in WITHOUT_FIELD:
            with self.assertRaises(errors.LockError):
                raise getattr(errors, name)()
        with self.assertRaises(ValueError) as caught:
            raise errors.BadText(3)
        self.assertEqual(caught.exception.index, 3)


if __name__ == "__main__":
    unittest.main()
