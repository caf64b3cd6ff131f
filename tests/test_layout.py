"""The interface of the document, and the plainer ones of the rules that the package's code keeps to."""

import ast
import builtins
import pathlib
import re
import unittest

PACKAGE = pathlib.Path(__file__).resolve().parent.parent / "lockwright"
FILES = sorted(PACKAGE.glob("*.py"))
TREES = {path.stem: ast.parse(path.read_text(encoding="utf-8")) for path in FILES}

FUNCTIONS = {
    "ranges": [
        "is_version(thing)", "is_range(thing)", "has(rng, version)", "is_part(one, other)", "both(one, other)",
        "either(one, other)", "outside(rng)", "read_range(text)", "least_of(rng)", "range_text(rng)",
        "version_text(version)",
    ],
    "books": [
        "offered(entry)", "turned(entry, features)", "packages(book)", "versions(book, name)",
        "entry_of(book, name, version)", "with_entry(book, one)", "without(book, name, version)",
    ],
    "booktexts": ["book_text(book)", "read_book(text)"],
    "questions": ["question_text(question)", "read_question(text)"],
    "installations": [
        "fault(book, question, thing)", "core(book, question, installation)",
        "way_to(book, question, installation, name)", "is_right(book, question, thing)",
    ],
    "ahead": ["choices(book, question, name)", "priority(book, question)", "is_ahead(book, question, one, other)"],
    "sayings": [
        "order_of(book, question)", "axioms_of(book, question)", "axiom_of(book, question, source)",
        "stand_of(book, question, installation)", "meant_by(book, question, stand)",
    ],
    "tasks": ["task_of(book, question)", "is_fitting(task, givens, thing)", "first_wrong(task, stand)"],
    "papers": ["clauses_of(task, givens, thing)", "is_paper(task, givens, thing)"],
    "search": ["solved(task, givens)", "follows(task, givens, literal)"],
    "warrants": [
        "warrant(task, givens, stand)", "is_warrant(task, givens, stand, thing)", "next_stand(task, givens, stand)",
        "all_stands(task, givens, many)",
    ],
    "trimming": [
        "trimmed(task, givens, paper)", "shortened(task, givens, paper)", "used(task, givens, paper)",
        "is_kernel(task, givens, sources)",
    ],
    "reasons": [
        "answer(book, question)", "clashes(book, question)", "given_up(book, question)",
        "why_not(book, question, name, version)", "why(book, question, name)",
    ],
    "journals": ["recovered(book, text)"],
    "locks": ["lock_text(installation)", "read_lock(text)", "locks_of(installation)"],
    "running": [
        "is_safe(book, thing)", "is_changeover(book, old, new, thing)", "affected(book, old, new)", "changeover(book, old, new)",
        "knots(book, installation)",
    ],
    "fetching": ["digest(text)", "fetched(mirrors, manifest, name, version)", "fetched_all(mirrors, manifest, installation)"],
    "building": ["built(book, installation, sources, recipe)"],
    "fleets": ["rollout(book, old, new, many, least)", "is_rollout(book, old, new, many, least, thing)"],
    "merging": ["merged(base, mine, theirs)"],
}
CLASSES = {
    "books": {"Entry": ["name", "version", "features", "needs", "bars"], "Book": ["entries"]},
    "questions": {"Question": ["wishes", "locks"]},
    "tasks": {"Task": ["order", "axioms"]},
}
METHODS_OF = {
    ("houses", "House"): [
        "__init__(self, book)", "put(self, entry)", "strike(self, name, version)", "undo(self)", "book(self)", "ask(self, question)",
        "kept(self)", "lemmas(self)", "copy(self)", "journal(self)",
    ],
    ("running", "Running"): ["__init__(self, book)", "start(self, triples)", "stop(self, names)", "runs(self)", "moves(self)", "copy(self)"],
    ("shelves", "Shelf"): [
        "__init__(self)", "cells(self)", "do(self, deed)", "cut(self, deed, many)", "meaning(self)", "edition(self)", "is_sound(self)",
        "deeds_for(self, installation, contents)", "lay(self, installation, contents)", "mend(self)",
    ],
    ("building", "Workshop"): ["__init__(self, recipe)", "build(self, book, installation, sources)", "made(self)"],
    ("fleets", "Fleet"): [
        "__init__(self, book, many, installation)", "start(self, machine, triples)", "stop(self, machine, names)", "runs(self, machine)",
        "serving(self, name)", "least_served(self)", "copy(self)",
    ],
}
CHANGING = ["append", "clear", "extend", "insert", "pop", "remove", "reverse", "setdefault", "update", "sort"]
LIBRARY = {"itertools": ["combinations"]}

BUILTINS = set(
    "len range enumerate zip min max sum abs sorted reversed int str bool list tuple dict set isinstance ord repr any all "
    "divmod map iter next getattr hasattr setattr frozenset Exception ValueError TypeError KeyError IndexError LookupError "
    "ZeroDivisionError ArithmeticError OverflowError RuntimeError NotImplementedError StopIteration".split()
)
METHODS = set(
    "append clear copy count endswith extend find get index insert isalnum isalpha isdigit islower isspace isupper items "
    "join keys ljust lower lstrip partition pop remove replace reverse rfind rjust rpartition rsplit rstrip setdefault "
    "split splitlines startswith strip update upper values zfill bit_length add discard isascii isdecimal isnumeric "
    "removeprefix removesuffix rindex __init__".split()
)
BARRED = re.compile(
    r"\b(type|typing|enum|Enum|namedtuple|TypedDict|abstractmethod|ABC|Generic|Protocol|Flag|register|mro|elements|open|input"
    r"|law|global|async|await|eval|exec|exit|id|vars|dir|locals|globals|chr|pow|float|complex)\b"
)
NODES = (
    ast.Global, ast.AsyncFunctionDef, ast.AsyncFor, ast.AsyncWith, ast.Await, ast.Div, ast.MatMult, ast.Import,
    ast.Yield, ast.YieldFrom, ast.GeneratorExp, ast.With, ast.Match,
)


def functions(tree):
    return [node for node in ast.walk(tree) if isinstance(node, ast.FunctionDef)]


def top(tree, kind):
    return {node.name: node for node in tree.body if isinstance(node, kind)}


def bound(function):
    """The names that a function binds: parameters, targets, handlers."""
    names = [arg.arg for arg in function.args.args]
    for node in ast.walk(function):
        if isinstance(node, ast.Name) and not isinstance(node.ctx, ast.Load):
            names.append(node.id)
        if isinstance(node, ast.ExceptHandler) and node.name:
            names.append(node.name)
    return names


class InterfaceTest(unittest.TestCase):
    def test_functions(self):
        for stem, wanted in FUNCTIONS.items():
            defined = top(TREES[stem], ast.FunctionDef)
            for text in wanted:
                name, arguments = text[:-1].split("(")
                with self.subTest(name=name):
                    self.assertEqual(", ".join(arg.arg for arg in defined[name].args.args), arguments)
                    self.assertEqual(defined[name].args.defaults, [])

    def test_classes(self):
        for stem, wanted in CLASSES.items():
            defined = top(TREES[stem], ast.ClassDef)
            for name, arguments in wanted.items():
                with self.subTest(name=name):
                    methods = {node.name: node for node in defined[name].body if isinstance(node, ast.FunctionDef)}
                    self.assertEqual([arg.arg for arg in methods["__init__"].args.args], ["self"] + arguments)
                    self.assertIn("__eq__", methods)

    def test_methods(self):
        for (stem, kind), wanted in METHODS_OF.items():
            defined = {node.name: node for node in top(TREES[stem], ast.ClassDef)[kind].body if isinstance(node, ast.FunctionDef)}
            for text in wanted:
                name, arguments = text[:-1].split("(")
                with self.subTest(kind=kind, name=name):
                    self.assertEqual(", ".join(arg.arg for arg in defined[name].args.args), arguments)
                    self.assertEqual(defined[name].args.defaults, [])


class RulesTest(unittest.TestCase):
    def test_folder(self):
        self.assertTrue((PACKAGE / "__init__.py").is_file())
        for path in PACKAGE.iterdir():
            if path.name != "__pycache__":
                self.assertRegex(path.name, r"^[a-z_]+\.py$")

    def test_characters_and_sizes(self):
        for path in FILES:
            text = path.read_text(encoding="utf-8")
            with self.subTest(path=path.name):
                self.assertRegex(text, r"\A[ -~\n]*\Z")
                self.assertLessEqual(text.count("\n"), 399)
                self.assertLessEqual(max(len(line) for line in text.split("\n")), 120)
                for node in functions(TREES[path.stem]):
                    self.assertLessEqual(node.end_lineno - node.lineno + 1, 40, node.name)

    def test_imports(self):
        stems = {path.stem for path in FILES}
        for stem, tree in TREES.items():
            for node in ast.walk(tree):
                if isinstance(node, ast.ImportFrom):
                    self.assertIn(node, tree.body)
                    self.assertEqual(node.level, 0)
                    if node.module in LIBRARY:
                        self.assertLessEqual({(name.name, name.asname) for name in node.names}, {(word, None) for word in LIBRARY[node.module]})
                        continue
                    home = node.module.removeprefix("lockwright.")
                    self.assertIn(home, stems)
                    defined = top(TREES[home], (ast.FunctionDef, ast.ClassDef))
                    named = [row.targets[0].id for row in TREES[home].body if isinstance(row, ast.Assign)]
                    for name in node.names:
                        self.assertIsNone(name.asname)
                        self.assertIn(name.name, list(defined) + named)

    def test_imports_make_no_ring(self):
        home = "lockwright."
        wanted = {
            stem: {node.module.removeprefix(home) for node in tree.body if isinstance(node, ast.ImportFrom) and node.module.startswith(home)}
            for stem, tree in TREES.items()
        }
        while wanted:
            free = [stem for stem, others in wanted.items() if not others & set(wanted)]
            self.assertNotEqual(free, [], wanted)
            for stem in free:
                del wanted[stem]

    def test_no_name_is_a_method_and_an_attribute(self):
        for stem, tree in TREES.items():
            for kind in top(tree, ast.ClassDef).values():
                methods = [node.name for node in kind.body if isinstance(node, ast.FunctionDef)]
                self.assertEqual(len(methods), len(set(methods)), (stem, kind.name))
                told = {node.attr for node in ast.walk(kind) if isinstance(node, ast.Attribute) and isinstance(node.ctx, ast.Store)}
                self.assertEqual(told & set(methods), set(), (stem, kind.name))

    def test_what_a_loop_goes_over_is_not_changed_in_it(self):
        for stem, tree in TREES.items():
            for loop in [node for node in ast.walk(tree) if isinstance(node, ast.For)]:
                over = {ast.unparse(node) for node in ast.walk(loop.iter) if isinstance(node, (ast.Name, ast.Attribute))}
                for node in [node for row in loop.body for node in ast.walk(row)]:
                    if isinstance(node, ast.Call) and isinstance(node.func, ast.Attribute) and node.func.attr in CHANGING:
                        self.assertNotIn(ast.unparse(node.func.value), over, stem)
                    if isinstance(node, ast.Subscript) and not isinstance(node.ctx, ast.Load):
                        self.assertNotIn(ast.unparse(node.value), over, stem)

    def test_each_import_is_used(self):
        for stem, tree in TREES.items():
            names = [name.name for node in tree.body if isinstance(node, ast.ImportFrom) for name in node.names]
            used = {node.id for node in ast.walk(tree) if isinstance(node, ast.Name)}
            self.assertEqual([name for name in names if name not in used], [], stem)

    def test_module_level(self):
        for stem, tree in TREES.items():
            for at, node in enumerate(tree.body):
                if isinstance(node, ast.Expr):
                    self.assertEqual(at, 0)
                    self.assertIsInstance(node.value.value, str)
                else:
                    self.assertIsInstance(node, (ast.ImportFrom, ast.FunctionDef, ast.ClassDef, ast.Assign))

    def test_nodes(self):
        for stem, tree in TREES.items():
            for node in ast.walk(tree):
                self.assertNotIsInstance(node, NODES, stem)
                self.assertEqual(getattr(node, "decorator_list", []), [], stem)
                if isinstance(node, ast.Constant):
                    self.assertNotIsInstance(node.value, (float, complex, bytes))
                    self.assertNotIn("%", str(node.value))

    def test_calls(self):
        for stem, tree in TREES.items():
            own = {name for other in TREES.values() for name in top(other, (ast.FunctionDef, ast.ClassDef))}
            own |= {word for words in LIBRARY.values() for word in words}
            # A function from a table is called by the name that it is given there.
            own |= {name for node in functions(tree) for name in bound(node)}
            methods = {node.name for other in TREES.values() for node in functions(other)}
            for node in ast.walk(tree):
                if isinstance(node, ast.Call) and isinstance(node.func, ast.Name):
                    self.assertIn(node.func.id, own | BUILTINS, stem)
                if isinstance(node, ast.Call) and isinstance(node.func, ast.Attribute):
                    self.assertIn(node.func.attr, METHODS | methods, stem)
            # Whether something is bytes may be asked; they are not made.
            asked = [part for node in ast.walk(tree) if isinstance(node, ast.Call) and ast.unparse(node.func) == "isinstance" for part in ast.walk(node)]
            self.assertEqual([node for node in ast.walk(tree) if isinstance(node, ast.Name) and node.id == "bytes" and node not in asked], [], stem)

    def test_names(self):
        for stem, tree in TREES.items():
            taken = set(dir(builtins)) | set(top(tree, ast.ClassDef))
            taken |= {name.name for node in tree.body if isinstance(node, ast.ImportFrom) for name in node.names}
            for node in functions(tree):
                self.assertEqual([name for name in bound(node) if name in taken], [], (stem, node.name))
            for name in top(tree, (ast.FunctionDef, ast.ClassDef)):
                self.assertNotIn(name, dir(builtins), stem)

    def test_words(self):
        for path in FILES:
            for node in ast.walk(TREES[path.stem]):
                for word in [getattr(node, "id", ""), getattr(node, "attr", ""), getattr(node, "arg", "")]:
                    self.assertIsNone(BARRED.search(word or ""), (path.name, word))


if __name__ == "__main__":
    unittest.main()
