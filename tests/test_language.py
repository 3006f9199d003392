"""A part of the language rules that can be seen in the package's files: sizes, signs, words, forms."""

import ast
import builtins
import pathlib
import re
import unittest

import lifthouse

FOLDER = pathlib.Path(lifthouse.__file__).parent
BANNED_WORDS = ("type", "typing", "typing_extensions", "enum", "Enum", "IntEnum", "StrEnum", "Flag", "IntFlag",
                "Generic", "Protocol", "ABC", "ABCMeta", "namedtuple", "NamedTuple", "TypedDict", "TYPE_CHECKING",
                "abstractmethod")
BANNED_NAMES = ("register", "mro", "elements", "open", "input", "version_info", "with_traceback", "add_note",
                "format", "format_map", "chr", "getattr", "setattr", "eval", "exec", "globals", "locals", "vars")
BANNED_FORMS = (ast.With, ast.Match, ast.Delete, ast.Global, ast.Nonlocal, ast.Assert, ast.Yield, ast.YieldFrom,
                ast.AsyncFunctionDef, ast.Await, ast.GeneratorExp, ast.SetComp, ast.DictComp, ast.NamedExpr,
                ast.Starred, ast.Div, ast.AnnAssign, ast.Set, ast.Import)
METHODS = ("append clear copy count endswith extend find get index insert isalnum isalpha isdigit islower isspace "
           "isupper items join keys ljust lower lstrip partition pop remove replace reverse rfind rjust rpartition "
           "rsplit rstrip setdefault split splitlines startswith strip update upper values zfill bit_length").split()
BUILTINS = ("len range enumerate zip min max sum abs sorted reversed int str bool list tuple dict isinstance ord repr "
            "any all divmod").split()


def sources():
    return [(path.name, path.read_text(encoding="utf-8")) for path in sorted(FOLDER.glob("*.py"))]


def nodes():
    return [(name, node) for name, text in sources() for node in ast.walk(ast.parse(text))]


def defined():
    return {node.name for name, node in nodes() if isinstance(node, (ast.FunctionDef, ast.ClassDef))}


def top_names(tree):
    """The names that a file itself defines at its top."""
    defs = [node.name for node in tree.body if isinstance(node, (ast.FunctionDef, ast.ClassDef))]
    return defs + [node.targets[0].id for node in tree.body if isinstance(node, ast.Assign)]


class LanguageTest(unittest.TestCase):
    def test_files(self):
        for path in FOLDER.iterdir():
            if path.name != "__pycache__":
                self.assertRegex(path.name, r"\A[a-z0-9_]+\.py\Z")

    def test_sizes_and_signs(self):
        for name, text in sources():
            rows = text.split("\n")
            self.assertLessEqual(len(rows), 400, name)
            self.assertLessEqual(max(len(row) for row in rows), 120, name)
            self.assertRegex(text, r"\A[ -~\n]*\Z", name)

    def test_functions_are_short(self):
        for name, node in nodes():
            if isinstance(node, ast.FunctionDef):
                self.assertLessEqual(node.end_lineno - node.lineno + 1, 40, f"{name}: {node.name}")
                self.assertEqual(node.decorator_list, [], f"{name}: {node.name}")

    def test_words_and_names(self):
        for name, text in sources():
            for word in BANNED_WORDS:
                self.assertIsNone(re.search(rf"\b{word}\b", text), f"{name}: {word}")
        for name, node in nodes():
            word = getattr(node, "id", getattr(node, "attr", getattr(node, "arg", getattr(node, "name", None))))
            self.assertNotIn(word, BANNED_NAMES, name)
            if isinstance(word, str) and word != "__init__":
                self.assertFalse(word.startswith("_"), f"{name}: {word}")

    def test_forms(self):
        for name, node in nodes():
            self.assertNotIsInstance(node, BANNED_FORMS, f"{name}: {getattr(node, 'lineno', 0)}")
            if isinstance(node, ast.Assign):
                self.assertEqual(len(node.targets), 1, f"{name}: {node.lineno}")
            if isinstance(node, (ast.For, ast.While)):
                self.assertEqual(node.orelse, [], f"{name}: {node.lineno}")
            if isinstance(node, ast.Constant):
                self.assertNotIsInstance(node.value, (float, complex, bytes), f"{name}: {node.lineno}")

    def test_calls_are_of_own_or_listed_names(self):
        own = defined()
        for name, node in nodes():
            if isinstance(node, ast.Call):
                called = node.func
                if isinstance(called, ast.Attribute):
                    self.assertIn(called.attr, list(own) + METHODS, f"{name}: {node.lineno}")
                else:
                    self.assertIn(called.id, list(own) + BUILTINS, f"{name}: {node.lineno}")

    def test_imports_are_from_the_defining_file(self):
        tops = {f"lifthouse.{name[:-3]}": set(top_names(ast.parse(text))) for name, text in sources()}
        for name, node in nodes():
            if isinstance(node, ast.ImportFrom):
                for alias in node.names:
                    self.assertIn(alias.name, tops[node.module], f"{name}: {node.lineno}")
                    self.assertIsNone(alias.asname, f"{name}: {node.lineno}")

    def test_no_two_files_draw_from_one_another(self):
        drawn = {f"lifthouse.{name[:-3]}": {node.module for node in ast.walk(ast.parse(text))
                                            if isinstance(node, ast.ImportFrom)} for name, text in sources()}
        while drawn:
            free = [name for name in drawn if not drawn[name] & set(drawn)]
            self.assertNotEqual(free, [], "a ring of imports")
            for name in free:
                drawn.pop(name)

    def test_each_name_of_a_file_is_bound_once(self):
        for name, text in sources():
            tree = ast.parse(text)
            drawn = [alias.name for node in tree.body if isinstance(node, ast.ImportFrom) for alias in node.names]
            names = top_names(tree) + drawn
            self.assertEqual(len(names), len(set(names)), name)
            inner = {node.arg for node in ast.walk(tree) if isinstance(node, ast.arg)}
            inner |= {node.id for part in tree.body if isinstance(part, (ast.FunctionDef, ast.ClassDef))
                      for node in ast.walk(part) if isinstance(node, ast.Name) and isinstance(node.ctx, ast.Store)}
            self.assertEqual(inner & (set(names) | set(dir(builtins))), set(), name)

    def test_no_name_is_a_method_and_a_value(self):
        methods = {part.name for name, node in nodes() if isinstance(node, ast.ClassDef)
                   for part in node.body if isinstance(part, ast.FunctionDef)}
        values = {node.attr for name, node in nodes()
                  if isinstance(node, ast.Attribute) and isinstance(node.ctx, ast.Store)}
        self.assertEqual(methods & values, set())
        pythons = {name for kind in (str, int, list, dict, set, tuple, bytes) for name in dir(kind)}
        self.assertEqual(((methods | values) & pythons) - {"__init__"}, set())


if __name__ == "__main__":
    unittest.main()
