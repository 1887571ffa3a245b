"""The package keeps to its small part of Python: the rules that can be read off the code."""

import ast
import builtins
import pathlib
import re
import unittest

PACKAGE = pathlib.Path(__file__).resolve().parent.parent / "truthstore"

STATEMENTS = (ast.Assign, ast.AugAssign, ast.If, ast.While, ast.For, ast.Return, ast.Break, ast.Continue, ast.Pass,
              ast.Raise, ast.Try, ast.Expr, ast.FunctionDef, ast.ClassDef, ast.ImportFrom)
EXPRESSIONS = (ast.Constant, ast.Name, ast.Attribute, ast.Subscript, ast.Slice, ast.List, ast.Tuple, ast.Dict,
               ast.BinOp, ast.UnaryOp, ast.BoolOp, ast.Compare, ast.IfExp, ast.Call, ast.ListComp, ast.Lambda,
               ast.JoinedStr, ast.FormattedValue)
BUILTINS = """len range enumerate zip min max sum abs sorted reversed int str bool list tuple dict set frozenset
    isinstance ord repr any all divmod Exception ValueError TypeError KeyError IndexError LookupError
    ZeroDivisionError ArithmeticError OverflowError RuntimeError NotImplementedError AttributeError
    StopIteration""".split()
METHODS = """append clear copy count endswith extend find get index insert isalnum isalpha isdigit islower isspace
    isupper items join keys ljust lower lstrip partition pop remove replace reverse rfind rjust rpartition rsplit
    rstrip setdefault split splitlines startswith strip update upper values zfill bit_length""".split()
WORDS = """type typing typing_extensions enum Enum IntEnum StrEnum Flag IntFlag Generic Protocol ABC ABCMeta
    namedtuple NamedTuple TypedDict TYPE_CHECKING abstractmethod""".split()
NOT_USED = """register mro elements open input version_info with_traceback add_note attrgetter breakpoint builtins
    compile copyright credits delattr dir eval exec exit gc getattr globals hasattr help id importlib license locals
    methodcaller os quit setattr super sys type vars format format_map""".split()
OWN_VALUES = """count index title find get join lower upper split strip copy add""".split()
PYTHONS_OWN = {name for kind in (str, int, list, dict, set, bytes, tuple) for name in dir(kind)}


def bound_names(tree):
    """All names that a file binds, with the line of each."""
    for node in ast.walk(tree):
        if isinstance(node, ast.Name) and isinstance(node.ctx, ast.Store):
            yield node.id, node.lineno
        elif isinstance(node, (ast.FunctionDef, ast.ClassDef)):
            yield node.name, node.lineno
        elif isinstance(node, ast.arg):
            yield node.arg, node.lineno
        elif isinstance(node, ast.ExceptHandler) and node.name:
            yield node.name, node.lineno


def is_plain(node, functions):
    """Whether it is a plain value for a file's top."""
    if isinstance(node, ast.UnaryOp):
        return isinstance(node.op, ast.USub) and isinstance(node.operand, ast.Constant)
    if isinstance(node, ast.Name):
        return node.id in functions
    if isinstance(node, (ast.List, ast.Tuple)):
        return all(is_plain(one, functions) for one in node.elts)
    if isinstance(node, ast.Dict):
        return all(is_plain(one, functions) for one in node.keys + node.values)
    return isinstance(node, ast.Constant) and isinstance(node.value, (int, str, type(None)))


class Language(unittest.TestCase):

    @classmethod
    def setUpClass(cls):
        cls.files = sorted(path for path in PACKAGE.iterdir() if path.name != "__pycache__")
        cls.texts = {path: path.read_text("utf-8") for path in cls.files}
        cls.trees = {path: ast.parse(text) for path, text in cls.texts.items()}

    def nodes(self, *kinds):
        for path, tree in self.trees.items():
            for node in ast.walk(tree):
                if isinstance(node, kinds):
                    yield "%s:%d" % (path.name, getattr(node, "lineno", 0)), node

    def test_files(self):
        for path in self.files:
            self.assertRegex(path.name, r"^[a-z0-9_]+\.py$")
            self.assertNotIn(path.stem, dir(builtins))
        self.assertIn("__init__.py", [path.name for path in self.files])

    def test_signs_and_sizes(self):
        for path, text in self.texts.items():
            self.assertEqual(re.findall(r"[^\n -~]", text), [], path.name)
            rows = text.splitlines()
            self.assertLessEqual(len(rows), 400, path.name)
            self.assertLessEqual(max(len(row) for row in rows), 120, path.name)
        for where, node in self.nodes(ast.FunctionDef):
            self.assertLessEqual(node.end_lineno - node.lineno + 1, 40, where)

    def test_words_that_stand_nowhere(self):
        for path, text in self.texts.items():
            found = [word for word in re.findall(r"\w+", text) if word in WORDS]
            self.assertEqual(found + re.findall("dataclass|overload|contextmanager", text), [], path.name)

    def test_imports(self):
        drawn = {}
        for path, tree in self.trees.items():
            drawn[path.stem] = []
            for node in tree.body:
                if isinstance(node, ast.ImportFrom):
                    self.assertRegex(node.module, r"^truthstore\.[a-z0-9_]+$")
                    drawn[path.stem].append(node.module.split(".")[1])
                    home = self.trees[PACKAGE / (node.module.split(".")[1] + ".py")]
                    own = [name for name, line in bound_names(ast.Module(home.body, []))]
                    for alias in node.names:
                        self.assertIn(alias.name, own, path.name)
                        self.assertIsNone(alias.asname)
        while drawn:
            free = [stem for stem in drawn if not drawn[stem]]
            self.assertTrue(free, "files draw from one another: %r" % drawn)
            drawn = {stem: [one for one in drawn[stem] if one not in free] for stem in drawn if stem not in free}

    def test_the_top_of_each_file(self):
        for path, tree in self.trees.items():
            self.assertTrue(ast.get_docstring(tree), path.name)
            names = []
            functions = []
            for node in tree.body[1:]:
                self.assertIsInstance(node, (ast.ImportFrom, ast.Assign, ast.FunctionDef, ast.ClassDef), path.name)
                if isinstance(node, ast.Assign):
                    self.assertTrue(is_plain(node.value, functions), "%s:%d" % (path.name, node.lineno))
                    names.append(node.targets[0].id)
                elif isinstance(node, ast.ImportFrom):
                    names.extend(alias.name for alias in node.names)
                else:
                    names.append(node.name)
                    functions.extend([node.name] if isinstance(node, ast.FunctionDef) else [])
            self.assertEqual(len(names), len(set(names)), path.name)

    def test_statements_and_expressions(self):
        for where, node in self.nodes(ast.stmt):
            self.assertIsInstance(node, STATEMENTS, where)
        for where, node in self.nodes(ast.expr):
            self.assertIsInstance(node, EXPRESSIONS, where)
        for where, node in self.nodes(ast.Assign):
            self.assertEqual(len(node.targets), 1, where)
            self.assertNotIsInstance(node.targets[0], (ast.Tuple, ast.List), where)
        for where, node in self.nodes(ast.For, ast.While):
            self.assertEqual(node.orelse, [], where)
        for where, node in self.nodes(ast.Try):
            self.assertEqual(node.finalbody, [], where)
        for where, node in self.nodes(ast.ListComp):
            self.assertEqual(len(node.generators), 1, where)
            self.assertLessEqual(len(node.generators[0].ifs), 1, where)
        for where, node in self.nodes(ast.Div, ast.MatMult, ast.Starred, ast.AnnAssign):
            self.fail(where)

    def test_values(self):
        for where, node in self.nodes(ast.Constant):
            self.assertIsInstance(node.value, (int, str, type(None)), where)
            if isinstance(node.value, str):
                self.assertNotIn("%", node.value, where)
        for where, node in self.nodes(ast.Pow):
            self.fail(where)
        for where, node in self.nodes(ast.Compare):
            for op, side in zip(node.ops, node.comparators):
                if isinstance(op, (ast.Is, ast.IsNot)):
                    self.assertIsInstance(side, ast.Constant, where)

    def test_functions_and_classes(self):
        for where, node in self.nodes(ast.FunctionDef):
            self.assertEqual(node.decorator_list, [], where)
            self.assertIsNone(node.args.vararg or node.args.kwarg or node.returns, where)
            self.assertEqual(node.args.kwonlyargs + node.args.posonlyargs, [], where)
        for where, node in self.nodes(ast.ClassDef):
            self.assertEqual(node.decorator_list + node.keywords, [], where)
            self.assertLessEqual(len(node.bases), 1, where)
            for part in node.body[1:]:
                self.assertIsInstance(part, ast.FunctionDef, where)

    def test_names(self):
        for path, tree in self.trees.items():
            imported = [alias.name for node in tree.body if isinstance(node, ast.ImportFrom) for alias in node.names]
            imported += [node.name for node in tree.body if isinstance(node, ast.ClassDef)]
            bound = [name for name, line in bound_names(tree)]
            for name, line in bound_names(tree):
                where = "%s:%d %s" % (path.name, line, name)
                self.assertRegex(name, r"^([A-Za-z][A-Za-z0-9_]*|__init__)$", where)
                self.assertNotIn(name, dir(builtins), where)
                self.assertNotIn(name, NOT_USED, where)
            locals_of_defs = [node.arg for node in ast.walk(tree) if isinstance(node, ast.arg)]
            locals_of_defs += [node.id for node in ast.walk(tree)
                               if isinstance(node, ast.Name) and isinstance(node.ctx, ast.Store)]
            self.assertEqual([name for name in locals_of_defs if name in imported], [], path.name)
            for node in ast.walk(tree):
                if isinstance(node, ast.Name) and node.id not in bound + imported:
                    self.assertIn(node.id, BUILTINS, "%s:%d" % (path.name, node.lineno))

    def test_methods_and_values(self):
        methods = {part.name for where, node in self.nodes(ast.ClassDef) for part in node.body[1:]}
        values = {node.attr for where, node in self.nodes(ast.Attribute) if isinstance(node.ctx, ast.Store)}
        self.assertEqual(methods & values, set())
        self.assertEqual({name for name in values if name in PYTHONS_OWN} - set(OWN_VALUES), set())
        self.assertEqual({name for name in methods if name in PYTHONS_OWN} - {"__init__", "add"} - set(METHODS), set())
        for where, node in self.nodes(ast.Attribute):
            self.assertIn(node.attr, methods | values | set(METHODS), where)
            self.assertNotIn(node.attr, NOT_USED, where)
        for where, node in self.nodes(ast.keyword):
            self.assertIn(node.arg, ("key", "reverse", "default", "start", "strict"), where)

    def test_errors(self):
        own = {node.name for where, node in self.nodes(ast.ClassDef)}
        for where, node in self.nodes(ast.ExceptHandler):
            self.assertIsInstance(node.type, ast.Name, where)
            self.assertIn(node.type.id, own | {"KeyError", "ZeroDivisionError", "StopIteration"}, where)
        for where, node in self.nodes(ast.Raise):
            self.assertIsInstance(node.exc, ast.Call, where)
            self.assertIn(node.exc.func.id, own, where)


if __name__ == "__main__":
    unittest.main()
