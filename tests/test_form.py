"""The interface's files and names, and the plainest rules of how the package is written."""

import ast
import re
import unittest
from pathlib import Path

PACKAGE = Path(__file__).resolve().parent.parent / "ropewarren"
DEFINED = {
    "wholes": ("is_whole",),
    "houses": ("is_house", "is_place"),
    "errors": (
        "WarrenError", "NoHouse", "NoRope", "NoStand", "NoBack", "NoText", "Flapped", "NoEnd", "NoPlace", "NoPipe",
        "NoAt", "NoRoom", "NoBy", "NoBit", "NoSize", "NoWay", "NoKnot", "NoName", "Twice", "Full", "Back", "Stuck",
        "Under", "Unseen", "TooMany", "Barred", "Shut", "Tight", "NoNarrow", "NoFlap", "NoPart",
    ),
}
BARRED_WORDS = re.compile(
    r"\b(type|typing|typing_extensions|enum|Enum|IntEnum|StrEnum|Flag|IntFlag|Generic|Protocol|ABC|ABCMeta|namedtuple"
    r"|NamedTuple|TypedDict|TYPE_CHECKING|abstractmethod)\b|dataclass|overload|contextmanager"
)


def files():
    return sorted(PACKAGE.rglob("*.py"))


def functions(tree):
    return [node for node in ast.walk(tree) if isinstance(node, ast.FunctionDef)]


class Form(unittest.TestCase):

    def test_each_name_is_defined_in_its_file(self):
        for name, words in DEFINED.items():
            tree = ast.parse((PACKAGE / f"{name}.py").read_text())
            defined = [node.name for node in tree.body if isinstance(node, (ast.FunctionDef, ast.ClassDef))]
            for word in words:
                self.assertIn(word, defined)

    def test_sizes(self):
        for file in files():
            lines = file.read_text().split("\n")
            self.assertLess(len(lines), 400, file)
            self.assertLessEqual(max(len(line) for line in lines), 120, file)
            for node in functions(ast.parse(file.read_text())):
                self.assertLessEqual(node.end_lineno - node.lineno + 1, 40, (file, node.name))

    def test_characters_and_words(self):
        for file in files():
            text = file.read_text(encoding="utf-8")
            self.assertEqual([sign for sign in text if sign != "\n" and not " " <= sign <= "~"], [], file)
            self.assertIsNone(BARRED_WORDS.search(text), file)

    def test_imports_stay_within_the_package(self):
        for file in files():
            for node in ast.walk(ast.parse(file.read_text())):
                self.assertNotIsInstance(node, ast.Import, file)
                if isinstance(node, ast.ImportFrom):
                    self.assertEqual((node.level, node.module.split(".")[0]), (0, "ropewarren"), file)

    def test_no_tests_and_no_other_files_within(self):
        within = [item for item in PACKAGE.rglob("*") if "__pycache__" not in item.parts]
        self.assertEqual([item for item in within if item.suffix != ".py" or item.name.startswith("test")], [])


if __name__ == "__main__":
    unittest.main()
