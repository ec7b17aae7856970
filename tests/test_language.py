"""Some of the rules of LANGUAGE.md that can be read off the files of the package."""

import ast
import unittest
from pathlib import Path

FOLDER = Path(__file__).resolve().parent.parent / "gathersheets"
FILES = sorted(FOLDER.rglob("*.py"))
BUILTINS = set("""len range enumerate zip min max sum abs sorted reversed int str bool list tuple dict set isinstance
    ord repr any all divmod ValueError TypeError KeyError IndexError""".split())
METHODS = set("""append clear copy count endswith extend find get index insert isalnum isalpha isdigit islower isspace
    isupper items join keys ljust lower lstrip partition pop remove replace reverse rfind rjust rpartition rsplit rstrip
    setdefault split splitlines startswith strip update upper values zfill bit_length translate maketrans
    removeprefix add discard""".split())
LIBRARY = {"math": {"lcm"}}
BARRED = set("""type typing enum Enum namedtuple NamedTuple ABC dataclass register mro elements open input law
    eval exec id dir vars globals locals hash map filter next iter round format print""".split())
NODES_LEFT_OUT = (ast.AsyncFunctionDef, ast.Await, ast.Global, ast.Import, ast.Div, ast.Lambda, ast.Yield, ast.Set)


class Language(unittest.TestCase):
    def trees(self):
        return [(path, ast.parse(path.read_text())) for path in FILES]

    def test_files(self):
        self.assertTrue(all(path.suffix in (".py", ".pyc") for path in FOLDER.rglob("*") if path.is_file()))
        self.assertLessEqual(len(FILES), 100)
        for path in FILES:
            self.assertRegex(path.name, "^[a-z_]+[.]py$")

    def test_sizes_and_characters(self):
        for path, tree in self.trees():
            text = path.read_text()
            lines = text.split("\n")
            self.assertLess(len(lines), 400, path)
            self.assertLessEqual(max(map(len, lines)), 120, path)
            self.assertTrue(all(sign == "\n" or " " <= sign <= "~" for sign in text), path)
            for node in ast.walk(tree):
                if isinstance(node, ast.FunctionDef):
                    self.assertLessEqual(node.end_lineno - node.lineno + 1, 40, node.name)

    def test_module_level(self):
        for path, tree in self.trees():
            for node in tree.body:
                docstring = isinstance(node, ast.Expr) and isinstance(node.value, ast.Constant)
                kinds = (ast.ImportFrom, ast.FunctionDef, ast.ClassDef, ast.Assign)
                self.assertTrue(docstring or isinstance(node, kinds), path)

    def test_imports_come_from_the_file_that_defines_the_name(self):
        for path, tree in self.trees():
            for node in ast.walk(tree):
                if isinstance(node, ast.ImportFrom) and node.module in LIBRARY:
                    self.assertTrue({name.name for name in node.names} <= LIBRARY[node.module], path)
                elif isinstance(node, ast.ImportFrom):
                    self.assertEqual(node.level, 0)
                    self.assertTrue(node.module.startswith("gathersheets."), path)
                    source = ast.parse((FOLDER / (node.module.split(".")[1] + ".py")).read_text())
                    defined = {part.name for part in source.body if hasattr(part, "name")}
                    for part in source.body:
                        if isinstance(part, ast.Assign):
                            defined.update(target.id for target in part.targets)
                    self.assertTrue({name.name for name in node.names} <= defined, path)

    def test_statements_builtins_and_methods(self):
        own = {node.name for _, tree in self.trees() for node in ast.walk(tree)
               if isinstance(node, (ast.FunctionDef, ast.ClassDef))}.union(*LIBRARY.values())
        for path, tree in self.trees():
            for node in ast.walk(tree):
                self.assertNotIsInstance(node, NODES_LEFT_OUT, path)
                if isinstance(node, ast.Call) and isinstance(node.func, ast.Name):
                    self.assertIn(node.func.id, BUILTINS | own, path)
                if isinstance(node, ast.Call) and isinstance(node.func, ast.Attribute):
                    self.assertIn(node.func.attr, METHODS | own, path)
                if isinstance(node, ast.Constant):
                    self.assertNotIsInstance(node.value, (float, complex), path)
                if isinstance(node, (ast.FunctionDef, ast.ClassDef)):
                    self.assertEqual(node.decorator_list, [], path)

    def test_names(self):
        builtins = set(dir(__builtins__)) if not isinstance(__builtins__, dict) else set(__builtins__)
        for path, tree in self.trees():
            bound = {node.id for node in ast.walk(tree) if isinstance(node, ast.Name)
                     and isinstance(node.ctx, ast.Store)}
            bound |= {node.arg for node in ast.walk(tree) if isinstance(node, ast.arg)}
            bound |= {node.name for node in ast.walk(tree) if isinstance(node, (ast.FunctionDef, ast.ClassDef))}
            self.assertFalse((bound - {"__init__"}) & (BARRED | builtins - {"_"}), path)
            imported = {name.name for node in tree.body if isinstance(node, ast.ImportFrom) for name in node.names}
            self.assertFalse(bound & imported, path)
