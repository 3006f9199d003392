"""A part of the language rules that can be seen in the package's files: sizes, signs, words, forms."""

import ast
import pathlib
import re
import unittest

import lifthouse

FOLDER = pathlib.Path(lifthouse.__file__).parent
BANNED_WORDS = ("type", "typing", "typing_extensions", "enum", "Enum", "IntEnum", "StrEnum", "Flag", "IntFlag",
                "Generic", "Protocol", "ABC", "ABCMeta", "namedtuple", "NamedTuple", "TypedDict", "TYPE_CHECKING",
                "abstractmethod")
BANNED_NAMES = ("register", "mro", "elements", "open", "input", "version_info", "with_traceback", "add_note",
                "format", "format_map", "chr", "getattr", "setattr", "eval", "exec", "globals", "locals", "vars")
BANNED_FORMS = (ast.With, ast.Match, ast.Delete, ast.Global, ast.Nonlocal, ast.Assert, ast.Yield, ast.YieldFrom,
                ast.AsyncFunctionDef, ast.Await, ast.GeneratorExp, ast.SetComp, ast.DictComp, ast.NamedExpr,
                ast.Starred, ast.Div, ast.AnnAssign, ast.Set, ast.Import)
METHODS = ("append clear copy count endswith extend find get index insert isalnum isalpha isdigit islower isspace "
           "isupper items join keys ljust lower lstrip partition pop remove replace reverse rfind rjust rpartition "
           "rsplit rstrip setdefault split splitlines startswith strip update upper values zfill bit_length").split()
BUILTINS = ("len range enumerate zip min max sum abs sorted reversed int str bool list tuple dict isinstance ord repr "
            "any all divmod").split()


def sources():
    return [(path.name, path.read_text(encoding="utf-8")) for path in sorted(FOLDER.glob("*.py"))]


def nodes():
    return [(name, node) for name, text in sources() for node in ast.walk(ast.parse(text))]


def defined():
    return {node.name for name, node in nodes() if isinstance(node, (ast.FunctionDef, ast.ClassDef))}


class LanguageTest(unittest.TestCase):
    def test_files(self):
        for path in FOLDER.iterdir():
            if path.name != "__pycache__":
                self.assertRegex(path.name, r"\A[a-z0-9_]+\.py\Z")

    def test_sizes_and_signs(self):
        for name, text in sources():
            rows = text.split("\n")
            self.assertLessEqual(len(rows), 400, name)
            self.assertLessEqual(max(len(row) for row in rows), 120, name)
            self.assertRegex(text, r"\A[ -~\n]*\Z", name)

    def test_functions_are_short(self):
        for name, node in nodes():
            if isinstance(node, ast.FunctionDef):
                self.assertLessEqual(node.end_lineno - node.lineno + 1, 40, f"{name}: {node.name}")
                self.assertEqual(node.decorator_list, [], f"{name}: {node.name}")

    def test_words_and_names(self):
        for name, text in sources():
            for word in BANNED_WORDS:
                self.assertIsNone(re.search(rf"\b{word}\b", text), f"{name}: {word}")
        for name, node in nodes():
            word = getattr(node, "id", getattr(node, "attr", getattr(node, "arg", getattr(node, "name", None))))
            self.assertNotIn(word, BANNED_NAMES, name)
            if isinstance(word, str) and word != "__init__":
                self.assertFalse(word.startswith("_"), f"{name}: {word}")

    def test_forms(self):
        for name, node in nodes():
            self.assertNotIsInstance(node, BANNED_FORMS, f"{name}: {getattr(node, 'lineno', 0)}")
            if isinstance(node, ast.Assign):
                self.assertEqual(len(node.targets), 1, f"{name}: {node.lineno}")
            if isinstance(node, (ast.For, ast.While)):
                self.assertEqual(node.orelse, [], f"{name}: {node.lineno}")
            if isinstance(node, ast.Constant):
                self.assertNotIsInstance(node.value, (float, complex, bytes), f"{name}: {node.lineno}")

    def test_calls_are_of_own_or_listed_names(self):
        own = defined()
        for name, node in nodes():
            if isinstance(node, ast.Call):
                called = node.func
                if isinstance(called, ast.Attribute):
                    self.assertIn(called.attr, list(own) + METHODS, f"{name}: {node.lineno}")
                else:
                    self.assertIn(called.id, list(own) + BUILTINS, f"{name}: {node.lineno}")


if __name__ == "__main__":
    unittest.main()
