"""The rules of the language, as far as a short look at the source can tell."""

import ast
import builtins
import os
import re
import unittest

FOLDER = os.path.join(os.path.dirname(os.path.dirname(os.path.abspath(__file__))), "ringpostfix")

# The interface, as far as it has landed: the names that each file defines itself, with the arguments of functions.
INTERFACE = {
    "errors": [
        "RingError", "NotReady", "NoBeginning", "NoRows", "NoArity", "TooLong", "LastToken", "OtherEffect",
        "NoProperty", "BadWish", "BadRing", "NoBalance", "TooManyEdits", "NothingToUndo", "BadEdits", "BadEdit",
        "Rejected", "Busy", "BadText", "NoPlace", "NoIndex", "NoVersion",
    ],
    "rings": [
        "is_ring(value)", "ring_error(value)", "balance(row)", "turned(ring, place)", "heights(ring, place)",
        "need(ring, place)", "best_place(ring)",
    ],
    "effects": ["effect_of(row)", "join_effects(*effects)", "repeat_effect(effect, times)", "is_effect(value)"],
    "beginnings": [
        "beginnings(ring)", "count_beginnings(ring)", "next_beginning(ring, place)", "units(ring)", "join_rows(*rows)",
    ],
    "links": [
        "taker(ring, place)", "givers(ring, place)", "lacks(ring)", "free_places(ring)", "links_hold(ring, value)",
    ],
    "trees": [
        "is_tree(value)", "tree_row(tree)", "row_trees(row)", "trees_from(ring, place)", "ring_of_trees(*trees)",
        "each_node(tree)",
    ],
    "changes": [
        "lowered(ring, place)", "raised(ring, place)", "added_beginning(ring, place)", "with_token(ring, place, arity)",
        "without_token(ring, place)", "replaced(ring, place, count, row)", "select(ring, **wanted)",
    ],
    "far": [
        "is_far_ring(value)", "far_length(far)", "far_balance(far)", "far_effect(far)", "far_need(far, position)",
        "far_beginnings(far)", "beginning_at(far, index)", "far_taker(far, position)", "unrolled(far)",
    ],
    "counting": [
        "count_rows(counts)", "count_ready(counts)", "ready_at(counts, index)", "ready_index(row)",
        "each_ready(counts)",
    ],
    "texts": ["ring_text(ring)", "places_text(places)", "parse_ring(text)"],
    "terms": ["terms_from(ring, names, place)", "parse_term(text)"],
    "reels": ["Reel", "ReadyReel(Reel)", "LoggedReel(Reel)", "LoggedReadyReel(LoggedReel, ReadyReel)"],
    "consoles": ["Console"],
}
# What the body of each class itself holds: its methods with their arguments, and its class values.
MEMBERS = {
    "Reel": [
        "MOST_EDITS", "WORDS", "__init__(self, ring)", "classmethod read(cls, text)", "staticmethod is_edit(value)",
        "property ring(self)", "property version(self)", "property beginnings(self)", "property start(self)",
        "start.setter start(self, value)", "choose(self, value)", "put(self, place, arity)",
        "insert(self, place, arity)", "remove(self, place)", "undo(self)", "run(self, edits, *, on_step=None)",
        "ring_at(self, version)", "edits(self)", "walk(self)", "copy(self)", "__len__(self)", "__str__(self)",
        "__eq__(self, other)",
    ],
    "ReadyReel": ["__init__(self, ring)"],
    "LoggedReel": ["__init__(self, ring)", "property log(self)"],
    "LoggedReadyReel": ["__init__(self, ring)"],
    "Console": ["__init__(self, reel)", "execute(self, line)", "property history(self)"],
}

BARRED_WORDS = re.compile(
    r"\b(type|typing|typing_extensions|enum|Enum|IntEnum|StrEnum|Flag|IntFlag|Generic|Protocol|ABC|ABCMeta"
    r"|namedtuple|NamedTuple|TypedDict|TYPE_CHECKING|abstractmethod)\b|dataclass|overload|contextmanager"
)
BARRED_NAMES = {"register", "mro", "elements", "open", "input", "law", "version_info", "with_traceback", "add_note"}
ALLOWED_BUILTINS = set(
    "len range enumerate zip min max sum abs sorted reversed int str bool bytes list tuple dict set frozenset"
    " isinstance ord repr any all divmod iter next property staticmethod classmethod super object Exception"
    " ValueError TypeError KeyError IndexError LookupError ZeroDivisionError ArithmeticError OverflowError"
    " RuntimeError NotImplementedError AttributeError StopIteration NotImplemented".split()
)
MODULE_STATEMENTS = (ast.ImportFrom, ast.FunctionDef, ast.ClassDef, ast.Assign)


def package_files():
    """Return the names of what stands in the package, without Python's own cache."""
    return sorted(name for name in os.listdir(FOLDER) if name != "__pycache__")


def source_of(name):
    with open(os.path.join(FOLDER, name), encoding="utf-8", newline="") as file:
        return file.read()


def trees():
    """Return (file name, syntax tree) for each file of the package."""
    return [(name, ast.parse(source_of(name))) for name in package_files()]


def bound_names(tree):
    """Return all names that a file binds or uses for something of its own."""
    names = []
    for node in ast.walk(tree):
        if isinstance(node, ast.Name) and not isinstance(node.ctx, ast.Load):
            names.append(node.id)
        elif isinstance(node, (ast.FunctionDef, ast.ClassDef)):
            names.append(node.name)
        elif isinstance(node, ast.arg):
            names.append(node.arg)
        elif isinstance(node, ast.alias):
            names.append(node.asname or node.name)
        elif isinstance(node, ast.Attribute):
            names.append(node.attr)
    return names


class LanguageTest(unittest.TestCase):
    def test_files(self):
        for name in package_files():
            self.assertRegex(name, r"^([a-z][a-z0-9_]*|__init__|__main__)\.py$")

    def test_characters_and_sizes(self):
        for name in package_files():
            source = source_of(name)
            self.assertRegex(source, r"^[ -~\n]*$", name)
            lines = source.split("\n")
            self.assertLessEqual(len(lines), 399, name)
            self.assertLessEqual(max(len(line) for line in lines), 120, name)
            self.assertIsNone(BARRED_WORDS.search(source), name)

    def test_functions_have_at_most_40_lines(self):
        for name, tree in trees():
            for node in ast.walk(tree):
                if isinstance(node, ast.FunctionDef):
                    self.assertLessEqual(node.end_lineno - node.lineno, 39, f"{name} {node.name}")

    def test_module_level(self):
        for name, tree in trees():
            self.assertIsNotNone(ast.get_docstring(tree), name)
            for node in tree.body[1:]:
                self.assertIsInstance(node, MODULE_STATEMENTS, f"{name} {node.lineno}")

    def test_imports_name_the_file_that_defines_the_name(self):
        for name, tree in trees():
            for node in ast.walk(tree):
                self.assertNotIsInstance(node, ast.Import, name)
                if isinstance(node, ast.ImportFrom):
                    package, file = node.module.split(".")
                    self.assertEqual((package, node.level), ("ringpostfix", 0), name)
                    defined = defined_names(ast.parse(source_of(file + ".py")))
                    for alias in node.names:
                        self.assertIn(alias.name, defined, name)

    def test_names(self):
        for name, tree in trees():
            for bound in bound_names(tree):
                with self.subTest(file=name, name=bound):
                    self.assertNotIn(bound, BARRED_NAMES)
                    self.assertRegex(bound, r"^([A-Za-z][A-Za-z0-9_]*|__[a-z]+__)$")

    def test_builtins(self):
        for name, tree in trees():
            for node in ast.walk(tree):
                if isinstance(node, ast.Name) and hasattr(builtins, node.id):
                    self.assertIn(node.id, ALLOWED_BUILTINS, f"{name} {node.lineno}")
                    self.assertIsInstance(node.ctx, ast.Load, f"{name} {node.lineno}")

    def test_generators_have_names_of_their_own(self):
        functions = []
        generators = []
        for name, tree in trees():
            for node in ast.walk(tree):
                if isinstance(node, ast.FunctionDef):
                    functions.append(node.name)
                    if any(isinstance(part, (ast.Yield, ast.YieldFrom)) for part in ast.walk(node)):
                        generators.append(node.name)
        for name in generators:
            self.assertEqual(functions.count(name), 1, name)

    def test_no_local_name_is_a_class_or_an_import_of_its_file(self):
        for name, tree in trees():
            taken = [node.name for node in tree.body if isinstance(node, ast.ClassDef)]
            for node in tree.body:
                if isinstance(node, ast.ImportFrom):
                    taken.extend(alias.asname or alias.name for alias in node.names)
            for node in ast.walk(tree):
                if isinstance(node, ast.arg):
                    self.assertNotIn(node.arg, taken, name)
                if isinstance(node, ast.Name) and not isinstance(node.ctx, ast.Load):
                    self.assertNotIn(node.id, taken, name)

    def test_values(self):
        for name, tree in trees():
            for node in ast.walk(tree):
                where = f"{name} {getattr(node, 'lineno', '')}"
                self.assertNotIsInstance(node, (ast.Div, ast.Global, ast.AsyncFunctionDef, ast.Await), where)
                if isinstance(node, ast.Constant):
                    self.assertNotIsInstance(node.value, (float, complex), where)
                    self.assertNotIn("%", str(node.value), where)
                if isinstance(node, ast.Compare):
                    for sign, right in zip(node.ops, node.comparators):
                        if isinstance(sign, (ast.Is, ast.IsNot)):
                            self.assertIn(getattr(right, "value", 0), (None, True, False), where)


    def test_no_name_is_a_method_and_an_attribute(self):
        methods, assigned = set(), set()
        for name, tree in trees():
            for node in ast.walk(tree):
                if isinstance(node, ast.ClassDef):
                    methods |= {part.name for part in node.body if isinstance(part, ast.FunctionDef)}
                if isinstance(node, ast.Attribute) and not isinstance(node.ctx, ast.Load):
                    assigned.add(node.attr)
        # A property with a setter is assigned, too.
        self.assertEqual(assigned & methods, {"start"})

    def test_double_underscore_methods(self):
        allowed = {"__init__", "__eq__", "__len__", "__str__"}
        for name, tree in trees():
            for node in ast.walk(tree):
                if isinstance(node, ast.FunctionDef) and node.name.startswith("__"):
                    self.assertIn(node.name, allowed, name)

    def test_errors_are_raised_and_caught_by_name(self):
        errors = set(defined_names(ast.parse(source_of("errors.py"))))
        for name, tree in trees():
            for node in ast.walk(tree):
                if isinstance(node, ast.Raise):
                    self.assertIsInstance(node.exc, ast.Call, f"{name} {node.lineno}")
                    self.assertIn(node.exc.func.id, errors, f"{name} {node.lineno}")
                if isinstance(node, ast.ExceptHandler):
                    kinds = node.type.elts if isinstance(node.type, ast.Tuple) else [node.type]
                    self.assertLessEqual({kind.id for kind in kinds}, errors, f"{name} {node.lineno}")

    def test_generator_expressions_and_sorting(self):
        # Reels have __eq__ and __len__, so there are lists in these places, and no .sort().
        for name, tree in trees():
            for node in ast.walk(tree):
                self.assertNotIsInstance(node, ast.GeneratorExp, f"{name} {getattr(node, 'lineno', '')}")
                if isinstance(node, ast.Attribute):
                    self.assertNotEqual(node.attr, "sort", f"{name} {node.lineno}")


def defined_names(tree):
    """Return the names that the file defines itself at module level."""
    names = []
    for node in tree.body:
        if isinstance(node, (ast.FunctionDef, ast.ClassDef)):
            names.append(node.name)
        elif isinstance(node, ast.Assign):
            names.extend(target.id for target in node.targets)
    return names


def heading(node):
    """Return a class or a function as the document writes it, with a decorator in front of it."""
    if isinstance(node, ast.ClassDef):
        bases = ", ".join(ast.unparse(base) for base in node.bases)
        # The bases of errors are no part of how the interface names them.
        return f"{node.name}({bases})" if "Reel" in bases else node.name
    return " ".join([ast.unparse(part) for part in node.decorator_list] + [f"{node.name}({ast.unparse(node.args)})"])


def members(node):
    """Return the methods and the class values in the body of a class."""
    found = []
    for part in node.body:
        if isinstance(part, ast.FunctionDef):
            found.append(heading(part))
        elif isinstance(part, ast.Assign):
            found.extend(target.id for target in part.targets)
    return found


class InterfaceTest(unittest.TestCase):
    def test_names_are_defined_in_their_files(self):
        for file, wanted in INTERFACE.items():
            nodes = ast.parse(source_of(file + ".py")).body
            defined = [heading(node) for node in nodes if isinstance(node, (ast.FunctionDef, ast.ClassDef))]
            for name in wanted:
                self.assertEqual(defined.count(name), 1, f"{file} {name}")

    def test_members_stand_in_the_classes_themselves(self):
        for file in ("reels", "consoles"):
            for node in ast.parse(source_of(file + ".py")).body:
                if isinstance(node, ast.ClassDef):
                    for name in MEMBERS[node.name]:
                        self.assertEqual(members(node).count(name), 1, f"{node.name} {name}")


if __name__ == "__main__":
    unittest.main()
