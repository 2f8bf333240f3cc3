"""Some rules of LANGUAGE.md that are easily broken unseen, over every file of the package."""

import ast
import builtins
import re
import unittest
from pathlib import Path

PACKAGE = Path(__file__).resolve().parent.parent / "stairsum"
FILES = sorted(PACKAGE.glob("*.py"))
BARRED = re.compile(
    r"\b(type|typing|typing_extensions|enum|Enum|IntEnum|StrEnum|Flag|IntFlag|Generic|Protocol|ABC|ABCMeta|namedtuple"
    r"|NamedTuple|TypedDict|TYPE_CHECKING|abstractmethod)\b|dataclass|overload|contextmanager")

BUILTINS = """
    len range enumerate zip min max sum abs sorted reversed int str bool bytes list tuple dict set frozenset
    isinstance ord repr any all divmod Exception ValueError TypeError KeyError IndexError LookupError ZeroDivisionError
    ArithmeticError OverflowError RuntimeError NotImplementedError AttributeError StopIteration NotImplemented
    """.split()

# L25, the methods of builtin values.
METHODS = """
    append clear copy count endswith extend find get index insert isalnum isalpha isdigit islower isspace isupper items
    join keys ljust lower lstrip partition pop remove replace reverse rfind rjust rpartition rsplit rstrip setdefault
    split splitlines startswith strip update upper values zfill bit_length
    """.split()


def nodes_of(path):
    return list(ast.walk(ast.parse(path.read_text())))


class Language(unittest.TestCase):

    def test_the_folder_has_plain_python_files_only(self):
        names = [path.name for path in PACKAGE.iterdir() if path.name != "__pycache__"]
        self.assertIn("__init__.py", names)
        for name in names:
            self.assertTrue(name == "__init__.py" or re.fullmatch(r"[a-z][a-z0-9_]*\.py", name), name)

    def test_signs_and_sizes(self):
        for path in FILES:
            text = path.read_bytes().decode("utf-8")
            self.assertTrue(all(sign == "\n" or " " <= sign <= "~" for sign in text), path)
            self.assertTrue(text.count("\n") <= 400, path)
            self.assertTrue(all(len(line) <= 120 for line in text.split("\n")), path)
            self.assertIsNone(BARRED.search(text), path)

    def test_functions_are_short(self):
        for path in FILES:
            for node in ast.walk(ast.parse(path.read_text())):
                if isinstance(node, ast.FunctionDef):
                    self.assertTrue(node.end_lineno - node.lineno < 40, (path, node.name))

    def test_imports_are_of_the_package_by_full_names(self):
        for path in FILES:
            for node in ast.walk(ast.parse(path.read_text())):
                self.assertNotIsInstance(node, ast.Import, path)
                if isinstance(node, ast.ImportFrom):
                    self.assertEqual(node.level, 0, path)
                    self.assertTrue(node.module.startswith("stairsum."), path)

    def test_numbers_and_strings(self):
        for path in FILES:
            for node in ast.walk(ast.parse(path.read_text())):
                self.assertNotIsInstance(node, ast.Div, path)
                if isinstance(node, ast.Constant):
                    self.assertNotIsInstance(node.value, float, path)
                    self.assertFalse(isinstance(node.value, str) and chr(37) in node.value, path)

    def test_only_the_listed_builtins_are_read_and_none_is_given_another_meaning(self):
        for path in FILES:
            for node in nodes_of(path):
                if isinstance(node, ast.Name) and node.id in vars(builtins):
                    self.assertIn(node.id, BUILTINS, path)
                    self.assertIsInstance(node.ctx, ast.Load, (path, node.id))
                if isinstance(node, ast.arg):
                    self.assertFalse(node.arg in vars(builtins), (path, node.arg))
                if isinstance(node, ast.FunctionDef):
                    self.assertFalse(node.name in vars(builtins), (path, node.name))

    def test_names_are_plain_and_no_import_is_given_another_meaning(self):
        for path in FILES:
            nodes = nodes_of(path)
            imported = [name.name for node in nodes if isinstance(node, ast.ImportFrom) for name in node.names]
            bound = [node.id for node in nodes if isinstance(node, ast.Name) and isinstance(node.ctx, ast.Store)]
            bound += [node.arg for node in nodes if isinstance(node, ast.arg)]
            bound += [node.name for node in nodes if isinstance(node, (ast.FunctionDef, ast.ClassDef))]
            for name in bound:
                self.assertNotIn(name, imported, path)
                self.assertTrue(re.fullmatch(r"[A-Za-z][A-Za-z0-9_]*|__[a-z]+__", name), (path, name))

    def test_powers_have_a_literal_exponent(self):
        for path in FILES:
            for node in nodes_of(path):
                if isinstance(node, ast.BinOp) and isinstance(node.op, ast.Pow):
                    self.assertIsInstance(node.right, ast.Constant, path)
                    self.assertTrue(0 <= node.right.value <= 64, path)

    def test_no_name_is_a_method_in_one_class_and_an_attribute_in_another(self):
        methods, attributes, read = set(), set(), set()
        for path in FILES:
            for node in nodes_of(path):
                if isinstance(node, ast.ClassDef):
                    methods |= {part.name for part in node.body if isinstance(part, ast.FunctionDef)}
                if isinstance(node, ast.Attribute):
                    names = attributes if isinstance(node.ctx, ast.Store) else read
                    names.add(node.attr)
        self.assertEqual(methods & attributes, set())
        self.assertEqual(read - methods - attributes - set(METHODS), set())
        self.assertEqual(attributes & set(METHODS), set())

    def test_each_name_is_bound_once_at_module_level(self):
        for path in FILES:
            bound = []
            for node in ast.parse(path.read_text()).body:
                if isinstance(node, ast.ImportFrom):
                    bound += [name.name for name in node.names]
                if isinstance(node, ast.Assign):
                    bound += [target.id for target in node.targets]
                if isinstance(node, (ast.FunctionDef, ast.ClassDef)):
                    bound.append(node.name)
            self.assertEqual(len(bound), len(set(bound)), path)

    def test_imports_name_the_file_that_defines_the_name_and_go_no_way_round(self):
        behind = {}
        for path in FILES:
            behind[path.stem] = []
            for node in nodes_of(path):
                if isinstance(node, ast.ImportFrom):
                    source = node.module.removeprefix("stairsum.")
                    behind[path.stem].append(source)
                    body = ast.parse((PACKAGE / (source + ".py")).read_text()).body
                    defined = [part.name for part in body if isinstance(part, (ast.FunctionDef, ast.ClassDef))]
                    for name in node.names:
                        self.assertIn(name.name, defined, path)
        while behind:
            free = [name for name in behind if not any(other in behind for other in behind[name])]
            self.assertTrue(free, sorted(behind))
            behind = {name: behind[name] for name in behind if name not in free}

    def test_what_is_compared_by_is_and_what_is_raised(self):
        for path in FILES:
            for node in nodes_of(path):
                if isinstance(node, ast.Compare) and any(isinstance(sign, (ast.Is, ast.IsNot)) for sign in node.ops):
                    for part in node.comparators:
                        self.assertTrue(isinstance(part, ast.Constant) and part.value in (None, True, False), path)
                if isinstance(node, ast.Raise):
                    self.assertTrue(isinstance(node.exc, ast.Call) and isinstance(node.exc.func, ast.Name), path)
                self.assertNotIsInstance(node, (ast.Global, ast.AsyncFunctionDef, ast.Await), path)


if __name__ == "__main__":
    unittest.main()
