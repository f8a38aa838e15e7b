"""That the package keeps to its part of Python, as far as a look at its syntax can tell."""

import ast
import builtins
import re
import unittest
from pathlib import Path

PACKAGE = Path(__file__).resolve().parent.parent / "askfirst"
FILES = sorted(path for path in PACKAGE.iterdir() if path.name != "__pycache__")

NODES = """
Module FunctionDef arguments arg ClassDef ImportFrom alias Import
Assign AugAssign If While For Return Break Continue Pass Raise Try ExceptHandler Expr
Constant Name Load Store Attribute Subscript Slice List Tuple Dict Set ListComp comprehension Lambda IfExp Call keyword
BinOp UnaryOp BoolOp Compare And Or Not USub Invert Add Sub Mult FloorDiv Mod Pow LShift RShift BitAnd BitOr BitXor
Eq NotEq Lt LtE Gt GtE In NotIn Is IsNot JoinedStr FormattedValue
""".split()
OWN_OF_PYTHON = """
len range enumerate zip min max sum abs sorted reversed int str bool list tuple dict set frozenset isinstance ord repr
any all divmod Exception ValueError TypeError KeyError IndexError LookupError ZeroDivisionError ArithmeticError
OverflowError RuntimeError NotImplementedError AttributeError StopIteration
""".split()
METHODS_OF_PYTHON = """
append clear copy count endswith extend find get index insert isalnum isalpha isdigit islower isspace isupper items
join keys ljust lower lstrip partition pop remove replace reverse rfind rjust rpartition rsplit rstrip setdefault split
splitlines startswith strip update upper values zfill bit_length
""".split()
NOT_USED = """
register mro elements open input version_info with_traceback add_note attrgetter breakpoint builtins compile copyright
credits delattr dir eval exec exit gc getattr globals hasattr help id importlib license locals methodcaller os quit
setattr super type vars sys typing typing_extensions enum Enum IntEnum StrEnum Flag IntFlag Generic Protocol ABC ABCMeta
namedtuple NamedTuple TypedDict TYPE_CHECKING abstractmethod
""".split()
KEYWORDS = {"sorted": {"key", "reverse"}, "min": {"key", "default"}, "max": {"key", "default"}, "sum": {"start"},
            "enumerate": {"start"}, "zip": {"strict"}}
TWO_UNDERSCORES = ("__init__", "__eq__", "__repr__", "__str__", "__len__")
VALUES_OF_PYTHON = ("", 0, [], (), {}, set(), b"")


def tree_of(path):
    return ast.parse(path.read_text(encoding="utf-8"))


def nodes_of(path, *kinds):
    return [node for node in ast.walk(tree_of(path)) if isinstance(node, kinds)]


def all_nodes(*kinds):
    return [node for path in FILES for node in nodes_of(path, *kinds)]


def bound_names(tree):
    names = [node.id for node in ast.walk(tree) if isinstance(node, ast.Name) and isinstance(node.ctx, ast.Store)]
    names += [node.arg for node in ast.walk(tree) if isinstance(node, ast.arg)]
    names += [node.name for node in ast.walk(tree) if isinstance(node, ast.ExceptHandler) and node.name]
    return names


def top_names(tree):
    names = []
    for node in tree.body:
        if isinstance(node, (ast.FunctionDef, ast.ClassDef)):
            names.append(node.name)
        if isinstance(node, ast.Assign):
            names += [target.id for target in node.targets]
        if isinstance(node, ast.ImportFrom):
            names += [alias.name for alias in node.names]
    return names


class Files(unittest.TestCase):
    def test_nothing_but_plain_files(self):
        for path in FILES:
            self.assertRegex(path.name, r"\A([a-z][a-z0-9_]*|__init__)\.py\Z")
            self.assertNotIn(path.stem, dir(builtins))
            self.assertFalse(path.name.startswith("test"))

    def test_signs_and_sizes(self):
        for path in FILES:
            text = path.read_text(encoding="utf-8")
            self.assertRegex(text, r"\A[ -~\n]*\Z")
            lines = text.splitlines()
            self.assertLessEqual(len(lines), 399, path)
            self.assertLessEqual(max(map(len, lines)), 120, path)
        for node in all_nodes(ast.FunctionDef):
            self.assertLessEqual(node.end_lineno - node.lineno + 1, 40, node.name)

    def test_the_interface_is_written_in_its_own_file(self):
        found = [(path.stem, node.name) for path in FILES for node in tree_of(path).body
                 if isinstance(node, (ast.FunctionDef, ast.ClassDef)) and node.name == "answers"]
        self.assertEqual(found, [("session", "answers")])


class Tops(unittest.TestCase):
    def test_imports_from_the_file_that_defines_the_name(self):
        for path in FILES:
            self.assertEqual(nodes_of(path, ast.Import), [])
            tops = [node for node in tree_of(path).body if isinstance(node, ast.ImportFrom)]
            self.assertEqual(len(tops), len(nodes_of(path, ast.ImportFrom)))
            for node in tops:
                self.assertRegex(node.module, r"\Aaskfirst\.[a-z]+\Z")
                source = tree_of(PACKAGE / (node.module.split(".")[1] + ".py"))
                defined = [each for each in source.body if not isinstance(each, ast.ImportFrom)]
                for alias in node.names:
                    self.assertIsNone(alias.asname)
                    self.assertIn(alias.name, top_names(ast.Module(defined, [])))

    def test_no_two_files_draw_from_one_another(self):
        draws = {path.stem: {node.module.split(".")[1] for node in nodes_of(path, ast.ImportFrom)} for path in FILES}
        while draws:
            free = [name for name in draws if not draws[name] & set(draws)]
            self.assertNotEqual(free, [], draws)
            for name in free:
                del draws[name]

    def test_each_name_once_and_nothing_else_done(self):
        for path in FILES:
            tree = tree_of(path)
            self.assertIsNotNone(ast.get_docstring(tree), path)
            self.assertEqual(len(top_names(tree)), len(set(top_names(tree))), path)
            for node in tree.body[1:]:
                self.assertIsInstance(node, (ast.ImportFrom, ast.FunctionDef, ast.ClassDef, ast.Assign))

    def test_locals_are_called_like_nothing_at_the_top_or_of_python(self):
        for path in FILES:
            tree = tree_of(path)
            tops = set(top_names(tree))
            for definition in nodes_of(path, ast.FunctionDef, ast.ClassDef):
                for name in bound_names(definition):
                    self.assertNotIn(name, tops, path)
                    self.assertNotIn(name, dir(builtins), path)


class Forms(unittest.TestCase):
    def test_statements_and_expressions(self):
        for node in all_nodes(ast.AST):
            self.assertIn(node.__class__.__name__, NODES, ast.dump(node))
        for node in all_nodes(ast.Assign):
            self.assertEqual(len(node.targets), 1)
        for node in all_nodes(ast.For, ast.While, ast.Try):
            self.assertEqual(getattr(node, "finalbody", []), [])
            self.assertTrue(isinstance(node, ast.Try) or node.orelse == [])
        for node in all_nodes(ast.Constant):
            self.assertIsInstance(node.value, (int, str, bool, None.__class__))

    def test_comprehensions(self):
        for node in all_nodes(ast.ListComp):
            self.assertEqual(len(node.generators), 1)
            self.assertLessEqual(len(node.generators[0].ifs), 1)

    def test_is_stands_beside_none_true_and_false(self):
        for node in all_nodes(ast.Compare):
            if isinstance(node.ops[0], (ast.Is, ast.IsNot)):
                self.assertIsInstance(node.comparators[0], ast.Constant)

    def test_functions(self):
        for node in all_nodes(ast.FunctionDef):
            self.assertEqual(node.decorator_list, [])
            self.assertEqual([node.args.vararg, node.args.kwarg, node.args.kwonlyargs, node.args.posonlyargs],
                             [None, None, [], []])
            self.assertIsNone(node.returns)
            self.assertTrue(ast.get_docstring(node) or node.name == "__init__", node.name)

    def test_classes(self):
        methods = set()
        for node in all_nodes(ast.ClassDef):
            self.assertEqual((node.decorator_list, node.keywords), ([], []))
            self.assertLessEqual(len(node.bases), 1)
            for part in node.body[1:]:
                self.assertIsInstance(part, ast.FunctionDef)
            methods |= {part.name for part in node.body[1:]}
        kept = {node.attr for node in all_nodes(ast.Attribute) if isinstance(node.ctx, ast.Store)}
        self.assertEqual(methods & kept, set())
        for name in (methods | kept) - set(TWO_UNDERSCORES):
            self.assertFalse(any(hasattr(value, name) for value in VALUES_OF_PYTHON), name)


class Names(unittest.TestCase):
    def test_plain_names(self):
        for path in FILES:
            tree = tree_of(path)
            names = bound_names(tree) + [node.attr for node in nodes_of(path, ast.Attribute)]
            names += [node.name for node in nodes_of(path, ast.FunctionDef, ast.ClassDef)]
            for name in names:
                self.assertTrue(re.fullmatch(r"[A-Za-z][A-Za-z0-9_]*", name) or name in TWO_UNDERSCORES, name)
                self.assertNotIn(name, NOT_USED)

    def test_names_of_python(self):
        for path in FILES:
            tree = tree_of(path)
            known = set(bound_names(tree)) | set(top_names(tree)) | set(OWN_OF_PYTHON)
            for node in nodes_of(path, ast.Name):
                self.assertIn(node.id, known, path)

    def test_methods(self):
        own = {node.name for node in all_nodes(ast.FunctionDef)}
        for node in all_nodes(ast.Call):
            if isinstance(node.func, ast.Attribute):
                self.assertIn(node.func.attr, own | set(METHODS_OF_PYTHON))
            allowed = KEYWORDS.get(node.func.id, set()) if isinstance(node.func, ast.Name) else set()
            self.assertLessEqual({keyword.arg for keyword in node.keywords}, allowed)

    def test_what_is_walked_at_once(self):
        walked = []
        for node in all_nodes(ast.For, ast.comprehension):
            walked.append(ast.dump(node.iter))
        for node in all_nodes(ast.Call):
            if isinstance(node.func, ast.Name) and node.func.id in ("list", "tuple", "sorted", "sum", "any", "all"):
                walked += [ast.dump(argument) for argument in node.args[:1]]
        for node in all_nodes(ast.Call):
            if isinstance(node.func, ast.Name) and node.func.id in ("zip", "enumerate", "reversed", "range"):
                self.assertIn(ast.dump(node), walked)


if __name__ == "__main__":
    unittest.main()
