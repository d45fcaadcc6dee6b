"""The package keeps to the small part of Python that it is written in.

These are the rules that a walk through the syntax can see; they hold for every file of the package.
"""

import ast
import builtins
import pathlib
import re
import unittest

PACKAGE = pathlib.Path(__file__).resolve().parent.parent / "vectorpoints"

STATEMENTS = (ast.Assign, ast.AugAssign, ast.AnnAssign, ast.If, ast.While, ast.For, ast.Return, ast.Break,
              ast.Continue, ast.Pass, ast.Raise, ast.Try, ast.Expr, ast.FunctionDef, ast.ClassDef, ast.ImportFrom)
EXPRESSIONS = (ast.BinOp, ast.UnaryOp, ast.BoolOp, ast.Compare, ast.IfExp, ast.Call, ast.Attribute, ast.Subscript,
               ast.Slice, ast.ListComp, ast.JoinedStr, ast.FormattedValue, ast.Constant, ast.Name, ast.List,
               ast.Tuple, ast.Dict, ast.Set, ast.Lambda)
FREE_NAMES = set("""len range enumerate zip min max sum abs sorted reversed int str bool list tuple dict set frozenset
    isinstance ord repr any all divmod Exception ValueError TypeError KeyError IndexError LookupError ZeroDivisionError
    ArithmeticError OverflowError RuntimeError NotImplementedError AttributeError StopIteration""".split())
METHODS = set("""append clear copy count endswith extend find get index insert isalnum isalpha isdigit islower isspace
    isupper items join keys ljust lower lstrip partition pop remove replace reverse rfind rjust rpartition rsplit
    rstrip setdefault split splitlines startswith strip update upper values zfill bit_length""".split())
WORDS = set("""type typing typing_extensions enum Enum IntEnum StrEnum Flag IntFlag Generic Protocol ABC ABCMeta
    namedtuple NamedTuple TypedDict TYPE_CHECKING abstractmethod""".split())
PARTS = ("dataclass", "overload", "contextmanager")
UNUSED_NAMES = set("""register mro elements open input version_info with_traceback add_note attrgetter breakpoint
    builtins compile copyright credits delattr dir eval exec exit gc getattr globals hasattr help id importlib license
    locals methodcaller os quit setattr super type vars format format_map sys map filter next hash bytes""".split())


def package_files():
    return sorted(path for path in PACKAGE.rglob("*") if path.is_file() and path.suffix != ".pyc")


def bound_names(tree):
    """Every name that a file gives a meaning to."""
    names = set()
    for node in ast.walk(tree):
        if isinstance(node, (ast.FunctionDef, ast.ClassDef)):
            names.add(node.name)
        elif isinstance(node, ast.arg):
            names.add(node.arg)
        elif isinstance(node, ast.Name) and isinstance(node.ctx, ast.Store):
            names.add(node.id)
        elif isinstance(node, ast.ImportFrom):
            names.update(alias.name for alias in node.names)
    return names


class Language(unittest.TestCase):

    def each_file(self):
        for path in package_files():
            text = path.read_text(encoding="utf-8")
            yield path, text, ast.parse(text)

    def test_files_have_plain_names(self):
        self.assertIn(PACKAGE / "__init__.py", package_files())
        for path in package_files():
            self.assertRegex(path.name, r"\A([a-z][a-z0-9_]*|__init__|__main__)\.py\Z")
            self.assertFalse(path.name.startswith("test_"))

    def test_sizes_and_signs(self):
        for path, text, tree in self.each_file():
            self.assertLessEqual(len(text.split("\n")), 399)
            self.assertEqual([line for line in text.split("\n") if len(line) > 120], [])
            self.assertRegex(text, r"\A[ -~\n]*\Z")
            for node in ast.walk(tree):
                if isinstance(node, ast.FunctionDef):
                    self.assertLessEqual(node.end_lineno - node.lineno + 1, 40, node.name)

    def test_words_that_stand_nowhere(self):
        for path, text, tree in self.each_file():
            self.assertEqual(set(re.findall(r"[A-Za-z_]+", text)) & WORDS, set(), path.name)
            self.assertEqual([part for part in PARTS if part in text], [], path.name)

    def test_statements_and_expressions(self):
        for path, text, tree in self.each_file():
            for node in ast.walk(tree):
                if isinstance(node, ast.stmt):
                    self.assertIsInstance(node, STATEMENTS, node.lineno)
                elif isinstance(node, ast.expr):
                    self.assertIsInstance(node, EXPRESSIONS, node.lineno)
                self.check_form(node)

    def check_form(self, node):
        if isinstance(node, ast.Assign):
            self.assertEqual(len(node.targets), 1, node.lineno)
        if isinstance(node, (ast.For, ast.While)):
            self.assertEqual(node.orelse, [], node.lineno)
        if isinstance(node, ast.ListComp):
            self.assertEqual(len(node.generators), 1, node.lineno)
            self.assertLessEqual(len(node.generators[0].ifs), 1, node.lineno)
        if isinstance(node, ast.Constant):
            self.assertNotIsInstance(node.value, (float, bytes, complex), node.lineno)
        if isinstance(node, ast.BinOp):
            self.assertNotIsInstance(node.op, (ast.Div, ast.MatMult), node.lineno)
        if isinstance(node, (ast.FunctionDef, ast.ClassDef)):
            self.assertEqual(node.decorator_list, [], node.lineno)
        if isinstance(node, ast.arguments):
            self.assertEqual((node.vararg, node.kwarg, node.kwonlyargs, node.posonlyargs), (None, None, [], []))
        if isinstance(node, ast.Compare) and any(isinstance(op, (ast.Is, ast.IsNot)) for op in node.ops):
            self.assertTrue(all(isinstance(x, ast.Constant) for x in node.comparators), node.lineno)

    def test_names(self):
        for path, text, tree in self.each_file():
            bound = bound_names(tree)
            self.assertEqual(bound & FREE_NAMES, set())
            self.assertEqual([name for name in bound if name.startswith("_") and name != "__init__"], [])
            used = {node.id for node in ast.walk(tree) if isinstance(node, ast.Name)}
            self.assertEqual(used - bound - FREE_NAMES, set())
            values = {node.attr for node in ast.walk(tree) if isinstance(node, ast.Attribute)}
            self.assertEqual((bound | used | values) & UNUSED_NAMES, set())

    def test_each_name_has_one_meaning(self):
        for path, text, tree in self.each_file():
            imported = [alias.name for node in tree.body if isinstance(node, ast.ImportFrom) for alias in node.names]
            classes = [node.name for node in tree.body if isinstance(node, ast.ClassDef)]
            top = imported + classes + [node.name for node in tree.body if isinstance(node, ast.FunctionDef)]
            top += [target.id for node in tree.body if isinstance(node, ast.Assign) for target in node.targets]
            self.assertEqual(len(top), len(set(top)), path.name)
            inner = set()
            for node in ast.walk(tree):
                if isinstance(node, ast.FunctionDef):
                    inner.update(part.arg for part in ast.walk(node) if isinstance(part, ast.arg))
                    inner.update(part.id for part in ast.walk(node)
                                 if isinstance(part, ast.Name) and isinstance(part.ctx, ast.Store))
            self.assertEqual(inner & set(imported + classes), set(), path.name)
            self.assertEqual((inner | set(top)) & set(dir(builtins)), set(), path.name)

    def test_imports_are_the_packages_own(self):
        for path, text, tree in self.each_file():
            for node in ast.walk(tree):
                if isinstance(node, ast.ImportFrom):
                    self.assertEqual(node.level, 0, node.lineno)
                    folder, name = node.module.split(".")
                    self.assertEqual(folder, "vectorpoints")
                    self.assertTrue((PACKAGE / (name + ".py")).is_file())
                    self.assertEqual([alias.asname for alias in node.names if alias.asname], [])

    def test_no_two_files_draw_from_one_another(self):
        draws = {}
        for path, text, tree in self.each_file():
            draws[path.stem] = {node.module.split(".")[1] for node in ast.walk(tree) if isinstance(node, ast.ImportFrom)}
        while draws:
            ready = [name for name, sources in draws.items() if not sources & set(draws)]
            self.assertNotEqual(ready, [], draws)
            for name in ready:
                del draws[name]

    def test_the_top_of_a_file(self):
        for path, text, tree in self.each_file():
            self.assertIsNotNone(ast.get_docstring(tree))
            for node in tree.body[1:]:
                self.assertIsInstance(node, (ast.ImportFrom, ast.FunctionDef, ast.ClassDef, ast.Assign), node.lineno)
                if isinstance(node, ast.Assign):
                    allowed = (ast.Constant, ast.Tuple, ast.List, ast.Dict, ast.Name, ast.expr_context, ast.UnaryOp,
                               ast.USub)
                    for part in ast.walk(node.value):
                        self.assertIsInstance(part, allowed, node.lineno)

    def test_methods_of_pythons_own_values(self):
        for path, text, tree in self.each_file():
            for node in ast.walk(tree):
                if isinstance(node, ast.Call) and isinstance(node.func, ast.Attribute):
                    self.assertIn(node.func.attr, METHODS, node.lineno)

    def test_the_interface_is_written_where_its_name_tells(self):
        holders = [path.stem for path, text, tree in self.each_file() for node in tree.body
                   if isinstance(node, (ast.FunctionDef, ast.ClassDef)) and node.name == "answers"]
        self.assertEqual(holders, ["machine"])


if __name__ == "__main__":
    unittest.main()
