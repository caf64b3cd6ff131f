"""Functions of strangers: what can be told of them ahead of calling them."""

from lockwright.atoms import Sort
from lockwright.blame import Blame
from lockwright.books import Book, Entry
from lockwright.booktexts import BookReader
from lockwright.building import Workshop
from lockwright.choosing import Chooser
from lockwright.engine import Engine
from lockwright.facts import Facts
from lockwright.fleets import Fleet
from lockwright.houses import House
from lockwright.inquiries import Inquiry
from lockwright.keeping import Kept, Lemma
from lockwright.questions import Question
from lockwright.running import Running
from lockwright.shelves import Shelf
from lockwright.tasks import Task

# Most of Python's own classes can be told by their names alone: these are all whose objects are no functions.
# A class is none either, so the class of classes and that of its aliases are among them.
NO_FUNCTIONS = (
    "BaseException", "BaseExceptionGroup", "EncodingMap", "FrameLocalsProxy", "GeneratorExit", "GenericAlias",
    "InstructionSequence", "InterpreterID", "KeyboardInterrupt", "NoDefaultType", "NoneType", "NotImplementedType",
    "PyCapsule", "ReferenceType", "SimpleNamespace", "SystemExit", "UnionType", "_buffer_wrapper", "anext_awaitable",
    "async_generator", "async_generator_asend", "async_generator_athrow", "async_generator_wrapped_value",
    "bytearray", "bytearray_iterator", "bytes_iterator", "callable_iterator", "cell", "classmethod", "code", "complex",
    "coroutine", "coroutine_wrapper", "dict_itemiterator", "dict_items", "dict_keyiterator", "dict_keys",
    "dict_reverseitemiterator", "dict_reversekeyiterator", "dict_reversevalueiterator", "dict_valueiterator",
    "dict_values", "ellipsis", "enumerate", "fieldnameiterator", "filter", "float", "formatteriterator", "frame",
    "frozenset", "generator", "generic_alias_iterator", "getset_descriptor", "hamt", "hamt_array_node",
    "hamt_bitmap_node", "hamt_collision_node", "items", "iterator", "keys", "line_iterator", "list_iterator",
    "list_reverseiterator", "longrange_iterator", "managedbuffer", "map", "mappingproxy", "member_descriptor",
    "memory_iterator", "memoryview", "module", "moduledef", "object", "odict_items", "odict_iterator", "odict_keys",
    "odict_values", "positions_iterator", "property", "range", "range_iterator", "reversed", "set", "set_iterator",
    "slice", "stderrprinter", "str_ascii_iterator", "str_iterator", "super", "symtable entry", "traceback",
    "tuple_iterator", "type", "values", "zip",
)


def is_plain(thing):
    """Whether a thing is of a plain kind, or of one made from it, which no function is."""
    return thing is None or isinstance(thing, (int, str, bytes, list, tuple, dict, Exception))


def is_shown(thing):
    """Whether a thing is of a class of the interface."""
    return isinstance(thing, (Entry, Book, Question, Task, House, Running, Shelf, Workshop, Fleet))


def is_inner(thing):
    """Whether a thing is of a class of this package that the interface does not name."""
    return isinstance(thing, (Sort, Blame, BookReader, Chooser, Engine, Facts, Inquiry, Kept, Lemma))


def is_function(thing):
    """Whether a thing is a function, or what a stranger made to be called like one."""
    if is_plain(thing) or is_shown(thing) or is_inner(thing):
        return False
    return thing.__class__.__name__ not in NO_FUNCTIONS
