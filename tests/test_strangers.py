"""Promises 12.1 and 0.3: what is a function of a stranger, told ahead of calling it."""

import ast
import collections
import functools
import importlib
import json
import pathlib
import subprocess
import sys
import types
import unittest
import unittest.mock
import weakref

from lockwright.strangers import NO_FUNCTIONS, is_function
from samples import branching, nested, odd_things, odd_tuples, steps

PACKAGE = pathlib.Path(__file__).resolve().parent.parent / "lockwright"
ASKED = """
import json, types
found = [object]
for kind in found:
    found += [other for other in type.__subclasses__(kind) if other not in found]
plain = (type(None), int, str, bytes, list, tuple, dict, Exception)
# The flag is that of classes that are made while a program runs; Python's own are there from the beginning.
own = [kind for kind in found if kind.__module__ == "builtins" and not kind.__flags__ & 1 << 9]
own += [types.GenericAlias, types.SimpleNamespace, types.UnionType]
called = lambda kind: any("__call__" in parent.__dict__ for parent in kind.__mro__) and kind not in (type, types.GenericAlias)
print(json.dumps([(kind.__name__, issubclass(kind, plain), called(kind)) for kind in own]))
"""


async def later():
    pass


async def later_steps():
    yield 1


class Recorder:
    def __init__(self):
        self.asked = []

    def told(self, name, version):
        self.asked.append((name, version))

    def __call__(self, name, version):
        return self.told(name, version)

    @classmethod
    def of_class(cls, name, version):
        return name

    @staticmethod
    def apart(name, version):
        return name

    @property
    def many(self):
        return len(self.asked)


def plain_function(name, version):
    return name


def pythons_classes():
    """The rows (name, is plain, is called) of Python's own classes, asked of a Python that has imported nothing else."""
    told = subprocess.run([sys.executable, "-I", "-S", "-c", ASKED], capture_output=True, text=True, check=True).stdout
    return [tuple(row) for row in json.loads(told)]


def package_classes():
    found = []
    for path in sorted(PACKAGE.glob("*.py")):
        for node in ast.parse(path.read_text(encoding="utf-8")).body:
            if isinstance(node, ast.ClassDef):
                found.append(getattr(importlib.import_module(f"lockwright.{path.stem}"), node.name))
    return found


def trouble():
    try:
        raise ValueError("x")
    except ValueError as error:
        return error.__traceback__


def no_functions():
    """Things of Python's own classes that are no functions."""
    keys, odd_keys = {"a": 1}, collections.OrderedDict(a=1)
    trace = trouble()
    return [
        range(3), range(0), slice(3), slice(1, 2, 3), bytearray(b"a"), memoryview(b"a"), Ellipsis, NotImplemented, object(),
        iter([1]), iter(()), iter("a"), iter("\u20ac"), iter(b"a"), iter(bytearray(b"a")), iter(memoryview(b"a")), iter(range(3)),
        iter(range(10 ** 30)), iter({1}), iter(keys), iter(keys.values()), iter(keys.items()), iter(lambda: 1, 1), iter(Indexed()),
        keys.keys(), keys.values(), keys.items(), odd_keys.keys(), odd_keys.values(), odd_keys.items(), iter(odd_keys),
        reversed([1]), reversed((1,)), reversed(keys), reversed(keys.values()), reversed(keys.items()),
        enumerate([]), zip(), map(len, []), filter(None, []), steps(), (thing for thing in []), later_steps(),
        property(), Recorder.many, classmethod(plain_function), super(Recorder, Recorder()), types.MappingProxyType({}), vars(Recorder),
        types.SimpleNamespace(), types, unittest, plain_function.__code__, types.CellType(1), trace, trace.tb_frame,
        type(plain_function).__code__, slice.start, int | str, list[int], list[plain_function], iter(list[int]),
        int, str, type, object, range, ValueError, Recorder, Indexed, KeyboardInterrupt(), SystemExit(), GeneratorExit(), BaseException("x"),
        BaseExceptionGroup("x", [KeyboardInterrupt()]), ExceptionGroup("x", [ValueError()]), StopIteration(1), UserWarning(), KeyError("x"),
        0.5, float("nan"), 1j, {1}, set(), frozenset(), frozenset([1]), sys.flags, sys.version_info, weakref.ref(Recorder),
    ]


class Indexed:
    def __getitem__(self, at):
        raise IndexError(at)


class FunctionsTest(unittest.TestCase):
    def test_functions(self):
        recorder = Recorder()
        functions = [
            plain_function, lambda name, version: name, lambda: None, recorder.told, Recorder.told, recorder.of_class, Recorder.of_class,
            recorder.apart, Recorder.apart, staticmethod(plain_function), steps, later, later_steps, trouble, len, print, {}.get, [].append,
            "a".join, str.join, int.__add__, (1).__add__, dict.fromkeys, dict.__dict__["fromkeys"], object.__new__,
        ]
        for thing in functions:
            self.assertIs(is_function(thing), True, thing)

    def test_what_is_called_like_one(self):
        for thing in [Recorder(), functools.partial(plain_function), functools.lru_cache(plain_function), functools.singledispatch(plain_function), unittest.mock.Mock()]:
            self.assertIs(is_function(thing), True, thing)

    def test_what_is_no_function(self):
        for thing in no_functions():
            self.assertIs(is_function(thing), False, repr(thing))

    def test_odd_things(self):
        wrong = [thing for thing in odd_things() if not isinstance(thing, (types.FunctionType, types.BuiltinFunctionType))]
        self.assertEqual(len(odd_things()) - len(wrong), 2)
        for thing in wrong + odd_tuples() + [nested(40), branching(40), (plain_function,), [plain_function], {"a": plain_function}, {plain_function: 1}]:
            self.assertIs(is_function(thing), False, type(thing))
        for kind in [int, str, bytes, list, tuple, dict, ValueError]:
            self.assertIs(is_function(type("Made", (kind,), {})()), False, kind)

    def test_what_is_awaited(self):
        told = later()
        for waiting in [told.__await__(), told, later_steps().asend(None), later_steps().athrow(ValueError)]:
            self.assertIs(is_function(waiting), False, waiting)
            waiting.close()

    def test_all_classes_of_python(self):
        """Of each class that Python itself has, whether its objects are functions is told by its name."""
        seen = {True: [], False: []}
        for name, plain, called in pythons_classes():
            if not plain:
                self.assertEqual(name not in NO_FUNCTIONS, called, name)
                seen[called].append(name)
        for name in ["function", "method", "builtin_function_or_method", "method-wrapper", "wrapper_descriptor", "method_descriptor"]:
            self.assertIn(name, seen[True])
        self.assertGreater(len(seen[False]), 80)

    def test_names_ascend(self):
        self.assertEqual(list(NO_FUNCTIONS), sorted(set(NO_FUNCTIONS)))

    def test_all_classes_of_the_package(self):
        """Also an object that nothing was set on yet is known by its class."""
        found = package_classes()
        self.assertGreater(len(found), 50)
        for kind in found:
            self.assertIs(is_function(kind.__new__(kind)), False, kind)
            self.assertIs(is_function(kind), False, kind)

    def test_nothing_is_called_or_used_up(self):
        recorder, rows = Recorder(), iter([1, 2])
        self.assertTrue(is_function(recorder) and is_function(recorder.told))
        self.assertFalse(is_function(rows))
        self.assertEqual((recorder.asked, list(rows)), ([], [1, 2]))


if __name__ == "__main__":
    unittest.main()
