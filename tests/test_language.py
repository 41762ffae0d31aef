"""The package keeps to the small part of Python that it is written in: what can be seen file by file."""

import ast
import builtins
import pathlib
import re
import unittest

PACKAGE = pathlib.Path(__file__).resolve().parent.parent / "ringreckon"

STATEMENTS = (ast.Assign, ast.AugAssign, ast.If, ast.While, ast.For, ast.Return, ast.Break, ast.Continue, ast.Pass,
              ast.Raise, ast.Try, ast.Expr, ast.FunctionDef, ast.ClassDef, ast.ImportFrom)

NOT_USED = (ast.JoinedStr, ast.Set, ast.SetComp, ast.DictComp, ast.GeneratorExp, ast.NamedExpr, ast.Starred, ast.Div,
            ast.Yield, ast.YieldFrom, ast.Await, ast.MatMult)

PYTHONS_OWN = set("""len range enumerate zip min max sum abs sorted reversed int str bool list tuple dict set frozenset
isinstance ord repr any all divmod Exception ValueError TypeError KeyError IndexError LookupError ZeroDivisionError
ArithmeticError OverflowError RuntimeError NotImplementedError AttributeError StopIteration""".split())

METHODS = set("""append clear copy count endswith extend find get index insert isalnum isalpha isdigit islower isspace
isupper items join keys ljust lower lstrip partition pop remove replace reverse rfind rjust rpartition rsplit rstrip
setdefault split splitlines startswith strip update upper values zfill bit_length""".split())

WORDS = set("""type typing typing_extensions enum Enum IntEnum StrEnum Flag IntFlag Generic Protocol ABC ABCMeta
namedtuple NamedTuple TypedDict TYPE_CHECKING abstractmethod""".split())

NAMES = set("""register mro elements open input version_info with_traceback add_note format format_map os sys
type super vars id dir gc chr""".split())


def files():
    return sorted(path for path in PACKAGE.rglob("*.py"))


def each():
    """Of each file its path, its text and its tree."""
    texts = [(path, path.read_text(encoding="utf-8")) for path in files()]
    return [(path, text, ast.parse(text, path.name)) for path, text in texts]


def is_plain(node):
    """Whether a file's top may give this to a name."""
    if isinstance(node, (ast.List, ast.Tuple)):
        return all(is_plain(part) for part in node.elts)
    if isinstance(node, ast.Dict):
        return all(is_plain(part) for part in node.keys + node.values)
    if isinstance(node, ast.UnaryOp):
        return isinstance(node.op, ast.USub) and is_plain(node.operand)
    if isinstance(node, ast.Constant):
        return node.value is None or type(node.value) in (int, str, bool)
    return isinstance(node, ast.Name)


def local_names(tree):
    """The parameters, and the names that anything is assigned to."""
    for node in ast.walk(tree):
        if isinstance(node, ast.arg):
            yield node.arg
        if isinstance(node, ast.Name) and isinstance(node.ctx, ast.Store):
            yield node.id


def names_of_defs(tree):
    return [node.name for node in ast.walk(tree) if isinstance(node, (ast.FunctionDef, ast.ClassDef))]


def classes_and_imports(tree):
    """What no parameter and no local may be called like."""
    for node in tree.body:
        if isinstance(node, ast.ClassDef):
            yield node.name
        if isinstance(node, ast.ImportFrom):
            for name in node.names:
                yield name.name


class Language(unittest.TestCase):
    def test_there_are_files(self):
        self.assertIn("reckoner.py", [path.name for path in files()])

    def test_nothing_else_in_the_package(self):
        for path in PACKAGE.rglob("*"):
            if "__pycache__" not in path.parts:
                self.assertRegex(path.name, r"\A(__init__|[a-z][a-z0-9_]*)\.py\Z")
                self.assertTrue(path.stem == "__init__" or not hasattr(builtins, path.stem))

    def test_signs_and_sizes(self):
        for path, text, tree in each():
            self.assertRegex(text, r"\A[ -~\n]*\Z")
            lines = text.split("\n")
            self.assertLessEqual(len(lines), 400)
            self.assertLessEqual(max(len(line) for line in lines), 120)
            for node in ast.walk(tree):
                if isinstance(node, ast.FunctionDef):
                    self.assertLessEqual(node.end_lineno - node.lineno + 1, 40, node.name)

    def test_words(self):
        for path, text, tree in each():
            self.assertEqual(WORDS & set(re.findall(r"\w+", text)), set())
            self.assertNotRegex(text, "dataclass|overload|contextmanager")

    def test_top_of_files(self):
        for path, text, tree in each():
            self.assertIsNotNone(ast.get_docstring(tree))
            bound = []
            for node in tree.body[1:]:
                if isinstance(node, ast.Assign):
                    self.assertTrue(is_plain(node.value), ast.unparse(node))
                    bound.append(node.targets[0].id)
                elif isinstance(node, ast.ImportFrom):
                    self.assertRegex(node.module, r"\Aringreckon\.[a-z]+\Z")
                    bound += [name.name for name in node.names]
                else:
                    self.assertIsInstance(node, (ast.FunctionDef, ast.ClassDef))
                    bound.append(node.name)
            self.assertEqual(len(bound), len(set(bound)))

    def test_statements_and_expressions(self):
        for path, text, tree in each():
            for node in ast.walk(tree):
                if isinstance(node, ast.stmt):
                    self.assertIsInstance(node, STATEMENTS)
                self.assertNotIsInstance(node, NOT_USED)
                if isinstance(node, ast.Assign):
                    self.assertEqual(len(node.targets), 1)
                if isinstance(node, ast.Constant):
                    self.assertNotIsInstance(node.value, (float, complex, bytes))
                if isinstance(node, ast.BinOp) and isinstance(node.op, ast.Pow):
                    self.assertTrue(isinstance(node.right, ast.Constant) and 0 <= node.right.value <= 64)
                if isinstance(node, (ast.FunctionDef, ast.ClassDef)):
                    self.assertEqual(node.decorator_list, [])
                if isinstance(node, ast.Compare) and isinstance(node.ops[0], (ast.Is, ast.IsNot)):
                    self.assertIsInstance(node.comparators[0], ast.Constant)

    def test_names(self):
        for path, text, tree in each():
            for name in list(local_names(tree)) + names_of_defs(tree):
                if name != "__init__":
                    self.assertFalse(name.startswith("_") or hasattr(builtins, name), name)
            self.assertEqual(set(local_names(tree)) & set(classes_and_imports(tree)), set())
            for node in ast.walk(tree):
                if isinstance(node, ast.Name):
                    self.assertTrue(not hasattr(builtins, node.id) or node.id in PYTHONS_OWN, node.id)
                    self.assertNotIn(node.id, NAMES)
                if isinstance(node, ast.Attribute):
                    self.assertNotIn(node.attr, NAMES)

    def test_methods_are_own_or_listed(self):
        own = {node.name for path in files() for node in ast.walk(ast.parse(path.read_text()))
               if isinstance(node, ast.FunctionDef)}
        for path, text, tree in each():
            for node in ast.walk(tree):
                if isinstance(node, ast.Call) and isinstance(node.func, ast.Attribute):
                    self.assertIn(node.func.attr, METHODS | own)

    def test_no_two_files_draw_from_one_another(self):
        drawn = {path.stem: {node.module.split(".")[1] for node in ast.parse(path.read_text()).body
                             if isinstance(node, ast.ImportFrom)} for path in files()}
        while drawn:
            free = [name for name in drawn if not drawn[name] & set(drawn)]
            self.assertTrue(free, drawn)
            for name in free:
                drawn.pop(name)


if __name__ == "__main__":
    unittest.main()
