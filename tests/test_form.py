"""The interface's files and names, and the plainest rules of how the package is written."""

import ast
import builtins
import re
import unittest
from pathlib import Path

PACKAGE = Path(__file__).resolve().parent.parent / "ropewarren"
DEFINED = {
    "wholes": ("is_whole",),
    "houses": ("is_house", "is_place"),
    "places": ("distance_of", "place_on", "next_to", "is_between"),
    "ropes": ("is_rope", "is_stand", "bit_at"),
    "pulls": ("pulled", "way_holds", "steps_of"),
    "halts": ("halts",),
    "tables": ("table_holds",),
    "verdicts": ("verdict", "verdict_holds", "distance"),
    "comes": ("come", "heads", "tails", "is_stuck", "under_always"),
    "depths": ("depth", "long_arms", "longest"),
    "lots": ("lot_of", "lots", "stands_in"),
    "parts": ("part", "part_stand", "part_way"),
    "least": ("least_width", "longest_part", "fewest_untied", "fewest_taken"),
    "sights": ("seen", "seen_way"),
    "changes": ("halved", "place_halved", "lengthened", "grown"),
    "warrens": ("Warren",),
    "texts": (
        "place_text", "stand_text", "rope_text", "house_text", "read_place", "read_stand", "read_rope", "read_house",
    ),
    "desk": ("Desk",),
    "errors": (
        "WarrenError", "NoHouse", "NoRope", "NoStand", "NoBack", "NoText", "Flapped", "NoEnd", "NoPlace", "NoPipe",
        "NoAt", "NoRoom", "NoBy", "NoBit", "NoSize", "NoWay", "NoKnot", "NoName", "Twice", "Full", "Back", "Stuck",
        "Under", "Unseen", "TooMany", "Barred", "Shut", "Tight", "NoNarrow", "NoFlap", "NoPart",
    ),
}
# Each method that the interface lists for a class stands in its own body.
LISTED = {
    ("warrens", "Warren"): (
        "__init__", "__eq__", "__len__", "__str__", "pull", "lead", "tie", "untie", "trim", "narrow", "clear", "hang",
        "take", "lengthen", "grow", "halve", "back", "house", "rope", "stand", "steps", "deeds", "keep", "drop", "names",
        "told", "changed",
    ),
    ("desk", "Desk"): ("__init__", "say"),
}
DOUBLE = {"__init__", "__eq__", "__len__", "__str__"}
BARRED_WORDS = re.compile(
    r"\b(type|typing|typing_extensions|enum|Enum|IntEnum|StrEnum|Flag|IntFlag|Generic|Protocol|ABC|ABCMeta|namedtuple"
    r"|NamedTuple|TypedDict|TYPE_CHECKING|abstractmethod)\b|dataclass|overload|contextmanager"
)
# L8 without what no file but __main__.py may use, and without chr (L27) and bytes (L7).
BUILTINS = set(
    "len range enumerate zip min max sum abs sorted reversed int str bool list tuple dict set isinstance ord repr any all"
    " divmod Exception ValueError TypeError KeyError IndexError LookupError ZeroDivisionError iter next".split()
)
# L25, the first list, and add and discard of stored sets (L24).
METHODS = set(
    "append clear copy count endswith extend find get index insert isalnum isalpha isdigit islower isspace isupper items"
    " join keys ljust lower lstrip partition pop remove replace reverse rfind rjust rpartition rsplit rstrip setdefault"
    " split splitlines startswith strip update upper values zfill bit_length add discard".split()
)


def files():
    return sorted(PACKAGE.rglob("*.py"))


def functions(tree):
    return [node for node in ast.walk(tree) if isinstance(node, ast.FunctionDef)]


def methods(tree):
    """The names of all methods of a file's classes."""
    classes = [node for node in tree.body if isinstance(node, ast.ClassDef)]
    return {part.name for node in classes for part in node.body if isinstance(part, ast.FunctionDef)}


def attributes(tree):
    """The names of all attributes that a file assigns."""
    return {node.attr for node in ast.walk(tree)
            if isinstance(node, ast.Attribute) and isinstance(node.ctx, ast.Store)}


def trees():
    return [(file, ast.parse(file.read_text())) for file in files()]


def imported(tree):
    return {name.asname or name.name for node in ast.walk(tree) if isinstance(node, ast.ImportFrom) for name in node.names}


def defined(tree):
    """The names of functions and classes, and those assigned at module level."""
    names = {node.name for node in ast.walk(tree) if isinstance(node, (ast.FunctionDef, ast.ClassDef))}
    return names | {target.id for node in tree.body if isinstance(node, ast.Assign) for target in node.targets}


def local(tree):
    """The names of parameters, of caught errors and of all that functions assign."""
    names = {node.arg for node in ast.walk(tree) if isinstance(node, ast.arg)}
    names |= {node.name for node in ast.walk(tree) if isinstance(node, ast.ExceptHandler) and node.name}
    for node in functions(tree):
        names |= {part.id for part in ast.walk(node) if isinstance(part, ast.Name) and isinstance(part.ctx, ast.Store)}
    return names


def docstrings(tree):
    return [ast.get_docstring(node, clean=False) for node in ast.walk(tree)
            if isinstance(node, (ast.Module, ast.FunctionDef, ast.ClassDef))]


class Form(unittest.TestCase):

    def test_each_name_is_defined_in_its_file(self):
        for name, words in DEFINED.items():
            tree = ast.parse((PACKAGE / f"{name}.py").read_text())
            defined = [node.name for node in tree.body if isinstance(node, (ast.FunctionDef, ast.ClassDef))]
            for word in words:
                self.assertIn(word, defined)

    def test_each_method_is_defined_in_its_class(self):
        for (name, word), listed in LISTED.items():
            tree = ast.parse((PACKAGE / f"{name}.py").read_text())
            (found,) = [node for node in tree.body if isinstance(node, ast.ClassDef) and node.name == word]
            within = [node.name for node in found.body if isinstance(node, ast.FunctionDef)]
            self.assertEqual(set(listed) - set(within), set(), word)
            self.assertEqual(len(within), len(set(within)), word)

    def test_no_name_is_a_method_and_an_attribute(self):
        all_methods = set().union(*(methods(tree) for file, tree in trees()))
        all_attributes = set().union(*(attributes(tree) for file, tree in trees()))
        self.assertEqual(all_methods & all_attributes, set())
        read = {node.attr for file, tree in trees() for node in ast.walk(tree)
                if isinstance(node, ast.Attribute) and isinstance(node.ctx, ast.Load)}
        self.assertEqual(read - all_attributes - all_methods - METHODS, set())

    def test_sizes(self):
        for file in files():
            lines = file.read_text().split("\n")
            self.assertLess(len(lines), 400, file)
            self.assertLessEqual(max(len(line) for line in lines), 120, file)
            for node in functions(ast.parse(file.read_text())):
                self.assertLessEqual(node.end_lineno - node.lineno + 1, 40, (file, node.name))

    def test_characters_and_words(self):
        for file in files():
            text = file.read_text(encoding="utf-8")
            self.assertEqual([sign for sign in text if sign != "\n" and not " " <= sign <= "~"], [], file)
            self.assertIsNone(BARRED_WORDS.search(text), file)

    def test_imports_stay_within_the_package(self):
        for file in files():
            for node in ast.walk(ast.parse(file.read_text())):
                self.assertNotIsInstance(node, ast.Import, file)
                if isinstance(node, ast.ImportFrom):
                    self.assertEqual((node.level, node.module.split(".")[0]), (0, "ropewarren"), file)

    def test_no_two_files_import_from_each_other(self):
        needs = {}
        for file, tree in trees():
            needs[file.stem] = {
                node.module.split(".")[1] for node in ast.walk(tree) if isinstance(node, ast.ImportFrom)
            }
        while needs:
            free = [name for name in needs if not needs[name] & set(needs)]
            self.assertTrue(free, needs)
            needs = {name: needs[name] for name in needs if name not in free}

    def test_imports_name_the_file_that_defines_the_name(self):
        for file, tree in trees():
            for node in ast.walk(tree):
                if isinstance(node, ast.ImportFrom):
                    source = ast.parse((PACKAGE / (node.module.split(".")[1] + ".py")).read_text())
                    for name in node.names:
                        self.assertIn(name.name, defined(source), file)

    def test_imports_are_used(self):
        for file, tree in trees():
            read = {node.id for node in ast.walk(tree) if isinstance(node, ast.Name)}
            self.assertEqual(imported(tree) - read, set(), file)

    def test_names(self):
        for file, tree in trees():
            given = defined(tree) | local(tree)
            self.assertEqual([name for name in given if name.startswith("_") and name not in DOUBLE], [], file)
            self.assertEqual((given - DOUBLE) & set(dir(builtins)), set(), file)
            classes = {node.name for node in tree.body if isinstance(node, ast.ClassDef)}
            self.assertEqual(local(tree) & (imported(tree) | classes), set(), file)
            self.assertEqual(local(tree) & (defined(tree) - methods(tree)), set(), file)

    def test_builtins_and_methods(self):
        own = set().union(*(methods(tree) for file, tree in trees()))
        for file, tree in trees():
            known = defined(tree) | local(tree) | imported(tree) | BUILTINS
            read = {node.id for node in ast.walk(tree) if isinstance(node, ast.Name)}
            self.assertEqual(read - known, set(), file)
            called = {node.func.attr for node in ast.walk(tree)
                      if isinstance(node, ast.Call) and isinstance(node.func, ast.Attribute)}
            self.assertEqual(called - METHODS - own, set(), file)

    def test_plain_expressions(self):
        barred = (
            ast.Div, ast.GeneratorExp, ast.Lambda, ast.Global, ast.AsyncFunctionDef, ast.SetComp, ast.Set, ast.Yield,
            ast.AnnAssign, ast.NamedExpr, ast.With, ast.Match, ast.Nonlocal, ast.Assert,
        )
        for file, tree in trees():
            for node in ast.walk(tree):
                self.assertNotIsInstance(node, barred, (file, getattr(node, "lineno", 0)))
                if isinstance(node, ast.Constant):
                    self.assertNotIsInstance(node.value, (float, complex, bytes), file)
                    if isinstance(node.value, str):
                        self.assertNotIn("\\", node.value, file)
                        self.assertNotIn("%", node.value, file)
                if isinstance(node, ast.BinOp) and isinstance(node.op, ast.Pow):
                    self.assertIsInstance(node.right, ast.Constant, file)
                if isinstance(node, ast.Compare):
                    for operator, right in zip(node.ops, node.comparators):
                        if isinstance(operator, (ast.Is, ast.IsNot)):
                            self.assertIn(ast.unparse(right), ("None", "True", "False"), file)

    def test_everything_has_a_docstring(self):
        for file, tree in trees():
            texts = [text for text in docstrings(tree) if text is None]
            inits = [node for node in functions(tree) if node.name == "__init__"]
            self.assertEqual(len(texts), len([node for node in inits if ast.get_docstring(node) is None]), file)

    def test_loops_do_not_change_what_they_go_over(self):
        changes = ("append", "extend", "insert", "pop", "remove", "clear", "update", "setdefault", "reverse")
        for file, tree in trees():
            for loop in ast.walk(tree):
                if isinstance(loop, ast.For) and isinstance(loop.iter, ast.Name):
                    for node in ast.walk(loop):
                        if isinstance(node, ast.Call) and isinstance(node.func, ast.Attribute):
                            if ast.unparse(node.func.value) == loop.iter.id:
                                self.assertNotIn(node.func.attr, changes, (file, node.lineno))

    def test_no_tests_and_no_other_files_within(self):
        within = [item for item in PACKAGE.rglob("*") if "__pycache__" not in item.parts]
        self.assertEqual([item for item in within if item.suffix != ".py" or item.name.startswith("test")], [])


if __name__ == "__main__":
    unittest.main()
