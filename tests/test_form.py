"""The form of the package's files: the rules of LANGUAGE.md that are quickly seen."""

import ast
import builtins
import pathlib
import re
import unittest

FOLDER = pathlib.Path(__file__).resolve().parent.parent / "platecuts"
FILES = sorted(FOLDER.glob("*.py"))
BARRED = re.compile(
    r"\b(type|typing|typing_extensions|enum|Enum|IntEnum|StrEnum|Flag|IntFlag|Generic|Protocol|ABC|ABCMeta"
    r"|namedtuple|NamedTuple|TypedDict|TYPE_CHECKING|abstractmethod)\b|dataclass|overload|contextmanager")
NODES = (
    ast.With, ast.Match, ast.Global, ast.Nonlocal, ast.Yield, ast.YieldFrom, ast.AsyncFunctionDef, ast.Await,
    ast.GeneratorExp, ast.NamedExpr, ast.Div, ast.Import,
)
BUILTINS = set(
    "len range enumerate zip min max sum abs sorted reversed int str bool bytes list tuple dict set isinstance ord repr "
    "any all divmod Exception ValueError TypeError KeyError IndexError LookupError ZeroDivisionError ArithmeticError "
    "OverflowError RuntimeError NotImplementedError".split())
METHODS = set(
    "append clear copy count endswith extend find get index insert isalnum isalpha isdigit islower isspace isupper "
    "items join keys ljust lower lstrip partition pop remove replace reverse rfind rjust rpartition rsplit rstrip "
    "setdefault split splitlines startswith strip update upper values zfill bit_length isascii add discard".split())


def trees():
    return [(path.name, ast.parse(path.read_text())) for path in FILES]


def nodes_of(kind):
    return [(name, node) for name, tree in trees() for node in ast.walk(tree) if isinstance(node, kind)]


class Form(unittest.TestCase):
    def test_folder(self):
        names = [path.name for path in FOLDER.iterdir() if path.name != "__pycache__"]
        self.assertIn("__init__.py", names)
        for name in names:
            self.assertRegex(name, r"^([a-z][a-z0-9_]*|__init__|__main__)\.py$")

    def test_signs_and_sizes(self):
        for path in FILES:
            text = path.read_text()
            lines = text.split("\n")
            self.assertLessEqual(len(lines), 400, path.name)
            self.assertLessEqual(max(len(line) for line in lines), 120, path.name)
            self.assertRegex(text, r"\A[ -~\n]*\Z", path.name)
            self.assertIsNone(BARRED.search(text), path.name)

    def test_functions_are_small_and_plain(self):
        for name, node in nodes_of(ast.FunctionDef):
            self.assertLessEqual(node.end_lineno - node.lineno + 1, 40, (name, node.name))
            self.assertEqual(node.decorator_list, [], (name, node.name))
            self.assertIsNone(node.args.vararg, (name, node.name))
            self.assertIsNone(node.args.kwarg, (name, node.name))

    def test_statements(self):
        for name, node in nodes_of(NODES):
            self.fail(f"{name} has {type(node).__name__}")

    def test_strings(self):
        for name, node in nodes_of(ast.Constant):
            self.assertNotIsInstance(node.value, (float, complex), name)
            if isinstance(node.value, str):
                self.assertNotIn("%", node.value, name)

    def test_imports(self):
        for name, node in nodes_of(ast.ImportFrom):
            self.assertRegex(node.module, r"^(platecuts\.[a-z][a-z0-9_]*|__future__)$", name)
            self.assertEqual(node.level, 0, name)
            self.assertNotIn("*", [alias.name for alias in node.names], name)

    def test_names(self):
        for name, node in nodes_of((ast.Name, ast.arg, ast.Attribute)):
            word = node.id if isinstance(node, ast.Name) else node.arg if isinstance(node, ast.arg) else node.attr
            if word != "__init__":
                self.assertRegex(word, r"^[A-Za-z]", name)

    def test_names_of_builtins(self):
        for name, node in nodes_of(ast.Name):
            if isinstance(node.ctx, ast.Store):
                self.assertFalse(hasattr(builtins, node.id), (name, node.id))
            elif hasattr(builtins, node.id):
                self.assertIn(node.id, BUILTINS, name)
        for name, node in nodes_of(ast.arg):
            self.assertFalse(hasattr(builtins, node.arg), (name, node.arg))

    def test_locals_do_not_hide_what_the_file_has(self):
        for name, tree in trees():
            held = {alias.asname or alias.name for node in tree.body if isinstance(node, ast.ImportFrom)
                    for alias in node.names}
            held |= {node.name for node in tree.body if isinstance(node, (ast.ClassDef, ast.FunctionDef))}
            for node in ast.walk(tree):
                if isinstance(node, ast.arg):
                    self.assertNotIn(node.arg, held, name)
                if isinstance(node, ast.Name) and isinstance(node.ctx, ast.Store):
                    self.assertNotIn(node.id, held, name)

    def test_imports_name_the_defining_file_and_are_used(self):
        bound = {}
        needs = {}
        for name, tree in trees():
            module = "platecuts." + name[:-3]
            bound[module] = {node.name for node in tree.body if isinstance(node, (ast.ClassDef, ast.FunctionDef))}
            bound[module] |= {target.id for node in tree.body if isinstance(node, ast.Assign) for target in node.targets}
            needs[module] = {node.module for node in tree.body if isinstance(node, ast.ImportFrom)}
        for name, node in nodes_of(ast.ImportFrom):
            text = (FOLDER / name).read_text()
            for alias in node.names:
                self.assertIn(alias.name, bound[node.module], name)
                self.assertGreater(len(re.findall(rf"\b{alias.name}\b", text)), 1, (name, alias.name))
        while needs:
            free = [module for module in needs if not needs[module] & set(needs)]
            self.assertNotEqual(free, [], "files import from each other")
            for module in free:
                del needs[module]

    def test_methods(self):
        own = {item.name for _, node in nodes_of(ast.ClassDef) for item in node.body
               if isinstance(item, ast.FunctionDef)}
        for name, node in nodes_of(ast.Call):
            if isinstance(node.func, ast.Attribute):
                self.assertIn(node.func.attr, METHODS | own, name)

    def test_signs_of_the_language(self):
        for name, node in nodes_of(ast.Compare):
            for sign, right in zip(node.ops, node.comparators):
                if isinstance(sign, (ast.Is, ast.IsNot)):
                    self.assertTrue(isinstance(right, ast.Constant) and right.value in (None, True, False), name)
        for name, node in nodes_of((ast.For, ast.While)):
            self.assertEqual(node.orelse, [], name)
        for name, node in nodes_of(ast.Starred):
            self.assertIsInstance(node.ctx, ast.Store, name)
        for name, node in nodes_of(ast.FormattedValue):
            self.assertIsNone(node.format_spec, name)
        for name, node in nodes_of(ast.Pow):
            self.fail(f"{name} has a power")

    def test_no_name_is_a_method_and_an_attribute(self):
        methods = {item.name for _, node in nodes_of(ast.ClassDef) for item in node.body
                   if isinstance(item, ast.FunctionDef)}
        attributes = {node.attr for _, node in nodes_of(ast.Attribute) if isinstance(node.ctx, ast.Store)}
        self.assertEqual(methods & attributes, set())


if __name__ == "__main__":
    unittest.main()
