"""The package keeps to the rules of LANGUAGE.md, as far as they can be read off its code."""

import ast
import builtins
import re
import unittest
from pathlib import Path

PACKAGE = Path(__file__).resolve().parent.parent / "primecloth"

FILES = (
    "__init__.py", "dividing.py", "errors.py", "points.py", "remainders.py", "roots.py", "rows.py", "sharing.py")

# The methods of Python's own values that the program has a use for; a further one is looked up in L25 first.
METHODS = frozenset(["append"])

STATEMENTS = (
    ast.Assign, ast.AugAssign, ast.If, ast.While, ast.For, ast.Return, ast.Break, ast.Continue, ast.Pass, ast.Raise,
    ast.Expr)

EXPRESSIONS = (
    ast.Constant, ast.Name, ast.List, ast.Tuple, ast.Dict, ast.BinOp, ast.UnaryOp, ast.BoolOp, ast.Compare,
    ast.IfExp, ast.Call, ast.Attribute, ast.Subscript, ast.Slice, ast.ListComp)

WALKED_AT_ONCE = ("zip", "enumerate", "reversed", "range")

WORDS = re.compile(
    r"\b(type|typing|typing_extensions|enum|Enum|IntEnum|StrEnum|Flag|IntFlag|Generic|Protocol|ABC|ABCMeta|namedtuple"
    r"|NamedTuple|TypedDict|TYPE_CHECKING|abstractmethod)\b|dataclass|overload|contextmanager")


def top_names(tree):
    names = []
    for node in tree.body:
        if isinstance(node, (ast.FunctionDef, ast.ClassDef)):
            names.append(node.name)
        if isinstance(node, ast.Assign):
            names.append(node.targets[0].id)
    return names


def imports(tree):
    return [node for node in tree.body if isinstance(node, ast.ImportFrom)]


def functions(tree):
    return [node for node in ast.walk(tree) if isinstance(node, ast.FunctionDef)]


class LanguageTest(unittest.TestCase):
    @classmethod
    def setUpClass(cls):
        cls.texts = {path.name: path.read_text("utf-8") for path in sorted(PACKAGE.glob("*.py"))}
        cls.trees = {name: ast.parse(text) for name, text in cls.texts.items()}

    def nodes(self):
        for name, tree in self.trees.items():
            for node in ast.walk(tree):
                yield (name, getattr(node, "lineno", 0)), node

    def test_the_package_holds_its_files_alone(self):
        names = sorted(path.name for path in PACKAGE.iterdir() if path.name != "__pycache__")
        self.assertEqual(names, sorted(FILES))

    def test_signs_words_and_sizes(self):
        for name, text in self.texts.items():
            self.assertTrue(all(sign == "\n" or " " <= sign <= "~" for sign in text), name)
            self.assertIsNone(WORDS.search(text), name)
            lines = text.split("\n")
            self.assertLessEqual(len(lines), 400, name)
            self.assertLessEqual(max(len(line) for line in lines), 120, name)
        for name, tree in self.trees.items():
            for node in functions(tree):
                self.assertLessEqual(node.end_lineno - node.lineno + 1, 40, (name, node.name))

    def test_imports_are_of_the_packages_own_names(self):
        for place, node in self.nodes():
            self.assertNotIsInstance(node, ast.Import, place)
            if isinstance(node, ast.ImportFrom):
                self.assertIn(node, self.trees[place[0]].body, place)
                self.assertEqual(node.level, 0, place)
                self.assertRegex(node.module, r"\Aprimecloth\.[a-z]+\Z", place)
                names = top_names(self.trees[node.module.split(".")[1] + ".py"])
                for alias in node.names:
                    self.assertIn(alias.name, names, place)
                    self.assertIsNone(alias.asname, place)

    def test_no_two_files_draw_from_one_another(self):
        self.assertEqual(imports(self.trees["__init__.py"]), [])
        left = {name: {node.module.split(".")[1] + ".py" for node in imports(tree)}
                for name, tree in self.trees.items()}
        while left:
            ready = [name for name in left if not left[name] & set(left)]
            self.assertNotEqual(ready, [], left)
            for name in ready:
                left.pop(name)

    def test_the_top_of_a_module(self):
        for name, tree in self.trees.items():
            self.assertIsNotNone(ast.get_docstring(tree), name)
            for node in tree.body[1:]:
                self.assertIsInstance(node, (ast.ImportFrom, ast.FunctionDef, ast.ClassDef, ast.Assign), name)
                if isinstance(node, ast.Assign):
                    self.assertIsInstance(node.value, ast.Constant, name)
            bound = top_names(tree) + [alias.name for node in imports(tree) for alias in node.names]
            self.assertEqual(len(bound), len(set(bound)), name)

    def test_functions_and_classes_are_plain(self):
        for place, node in self.nodes():
            if isinstance(node, ast.FunctionDef):
                arguments = node.args
                self.assertEqual(node.decorator_list + arguments.posonlyargs + arguments.kwonlyargs, [], place)
                self.assertIsNone(arguments.vararg, place)
                self.assertIsNone(arguments.kwarg, place)
                self.assertIsNone(node.returns, place)
                self.assertTrue(all(argument.annotation is None for argument in arguments.args), place)
            if isinstance(node, ast.ClassDef):
                self.assertEqual(node.decorator_list + node.keywords, [], place)
                self.assertEqual(len(node.bases), 1, place)
                self.assertTrue(all(isinstance(part, ast.Pass) for part in node.body), place)

    def test_statements_and_expressions(self):
        for place, node in self.nodes():
            if isinstance(node, ast.stmt):
                self.assertIsInstance(node, STATEMENTS + (ast.FunctionDef, ast.ClassDef, ast.ImportFrom), place)
            if isinstance(node, ast.expr):
                self.assertIsInstance(node, EXPRESSIONS, place)
            if isinstance(node, ast.Assign):
                self.assertEqual(len(node.targets), 1, place)
                self.assertNotIsInstance(node.targets[0], ast.Tuple, place)
            if isinstance(node, (ast.For, ast.While)):
                self.assertEqual(node.orelse, [], place)
            if isinstance(node, ast.Constant):
                self.assertIn(type(node.value), (int, str, bool, type(None)), place)
            if isinstance(node, ast.comprehension):
                self.assertLessEqual(len(node.ifs), 1, place)
            if isinstance(node, ast.ListComp):
                self.assertEqual(len(node.generators), 1, place)
            self.assertNotIsInstance(node, (ast.Div, ast.Pow, ast.Is, ast.IsNot), place)

    def test_texts(self):
        for place, node in self.nodes():
            if isinstance(node, ast.Constant) and isinstance(node.value, str):
                self.assertNotIn("%", node.value, place)

    def test_names(self):
        for name, tree in self.trees.items():
            taken = [alias.name for node in imports(tree) for alias in node.names]
            taken += [node.name for node in tree.body if isinstance(node, ast.ClassDef)]
            for node in ast.walk(tree):
                bound = None
                if isinstance(node, ast.arg):
                    bound = node.arg
                if isinstance(node, ast.Name) and isinstance(node.ctx, ast.Store):
                    bound = node.id
                if bound is not None:
                    self.assertRegex(bound, r"\A[A-Za-z][A-Za-z0-9_]*\Z", name)
                    self.assertFalse(hasattr(builtins, bound), (name, bound))
                    self.assertNotIn(bound, taken, name)

    def test_methods_and_keywords(self):
        for place, node in self.nodes():
            if isinstance(node, ast.Attribute):
                self.assertIn(node.attr, METHODS, place)
            if isinstance(node, ast.Call):
                self.assertEqual(node.keywords, [], place)

    def test_walked_at_once(self):
        for name, tree in self.trees.items():
            walked = [node.iter for node in ast.walk(tree) if isinstance(node, (ast.For, ast.comprehension))]
            for node in ast.walk(tree):
                if isinstance(node, ast.Call) and isinstance(node.func, ast.Name):
                    if node.func.id in WALKED_AT_ONCE:
                        self.assertIn(node, walked, (name, node.lineno))


if __name__ == "__main__":
    unittest.main()
