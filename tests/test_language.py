"""The package keeps to the small part of Python that it is written in."""

import ast
import builtins
import pathlib
import re
import unittest

PACKAGE = pathlib.Path(__file__).resolve().parent.parent / "fewkeys"
FILES = sorted(path for path in PACKAGE.rglob("*") if "__pycache__" not in path.parts)

STATEMENTS = (ast.Assign, ast.AugAssign, ast.If, ast.While, ast.For, ast.Return, ast.Break, ast.Continue, ast.Pass,
              ast.Raise, ast.Try, ast.Expr, ast.FunctionDef, ast.ClassDef, ast.ImportFrom)
EXPRESSIONS = (ast.Constant, ast.List, ast.Tuple, ast.Dict, ast.BinOp, ast.UnaryOp, ast.Compare, ast.BoolOp, ast.IfExp,
               ast.Call, ast.Attribute, ast.Subscript, ast.Slice, ast.Name, ast.ListComp)
BUILTINS = set("""len range enumerate zip min max sum abs sorted reversed int str bool list tuple dict set frozenset
isinstance ord repr any all divmod Exception ValueError TypeError KeyError IndexError LookupError ZeroDivisionError
ArithmeticError OverflowError RuntimeError NotImplementedError AttributeError StopIteration""".split())
METHODS = set("""append clear copy count endswith extend find get index insert isalnum isalpha isdigit islower isspace
isupper items join keys ljust lower lstrip partition pop remove replace reverse rfind rjust rpartition rsplit rstrip
setdefault split splitlines startswith strip update upper values zfill bit_length""".split())
NO_NAMES = set("""register mro elements open input version_info with_traceback add_note attrgetter breakpoint builtins
compile copyright credits delattr dir eval exec exit gc getattr globals hasattr help id importlib license locals
methodcaller os quit setattr super type vars sys chr format format_map""".split())
NO_WORDS = set("""type typing typing_extensions enum Enum IntEnum StrEnum Flag IntFlag Generic Protocol ABC ABCMeta
namedtuple NamedTuple TypedDict TYPE_CHECKING abstractmethod""".split())
NO_VALUES = set("""items keys values pop update append clear extend insert remove reverse setdefault sort args encode
format""".split())
MAY_BE_VALUES = set("count index title find get join lower upper split strip copy add".split())
OWN = set(name for kind in (str, int, list, dict, set, bytes, tuple) for name in dir(kind))


class Language(unittest.TestCase):
    def setUp(self):
        self.texts = {path: path.read_text(encoding="utf-8") for path in FILES}
        self.trees = {path: ast.parse(text) for path, text in self.texts.items()}
        self.files = {node: path.name for path, tree in self.trees.items() for node in ast.walk(tree)}

    def nodes(self, *kinds):
        return [node for node in self.files if isinstance(node, kinds)]

    def at(self, node):
        return self.subTest(file=self.files[node], line=node.lineno)

    def tops(self, path):
        """What the file's top binds: names, functions and classes."""
        bound = []
        for node in self.trees[path].body:
            if isinstance(node, ast.Assign):
                bound += [target.id for target in node.targets]
            elif isinstance(node, (ast.FunctionDef, ast.ClassDef)):
                bound.append(node.name)
            elif isinstance(node, ast.ImportFrom):
                bound += [alias.name for alias in node.names]
        return bound

    def test_files(self):
        self.assertTrue(FILES)
        for path in FILES:
            with self.subTest(file=path.name):
                self.assertRegex(path.name, r"^[a-z0-9_]+\.py$")
                self.assertEqual(path.parent, PACKAGE)
                self.assertFalse(path.stem in dir(builtins) or path.stem in NO_WORDS or path.stem.startswith("test"))
        self.assertIn(PACKAGE / "__init__.py", FILES)

    def test_signs_and_sizes(self):
        for path, text in self.texts.items():
            with self.subTest(file=path.name):
                self.assertEqual(set(re.findall(r"[^\n -~]", text)), set())
                rows = text.split("\n")
                self.assertLessEqual(len(rows), 400)
                self.assertLessEqual(max(len(row) for row in rows), 120)
                self.assertEqual(set(re.findall(r"\w+", text)) & NO_WORDS, set())
                self.assertNotRegex(text, "dataclass|overload|contextmanager")
        for node in self.nodes(ast.FunctionDef):
            with self.at(node):
                self.assertLessEqual(node.end_lineno - node.lineno + 1, 40)

    def test_imports(self):
        drawn = {}
        for path, tree in self.trees.items():
            drawn[path.stem] = set()
            for node in ast.walk(tree):
                if isinstance(node, ast.ImportFrom):
                    with self.subTest(file=path.name, line=node.lineno):
                        self.assertIn(node, tree.body)
                        self.assertEqual(node.level, 0)
                        self.assertTrue(node.module.startswith("fewkeys."))
                        other = PACKAGE / (node.module.split(".")[1] + ".py")
                        defined = [name for name in self.tops(other) if name not in self.drawn_names(other)]
                        for alias in node.names:
                            self.assertIn(alias.name, defined)
                            self.assertIsNone(alias.asname)
                        drawn[path.stem].add(other.stem)
        while drawn:
            free = [stem for stem in drawn if not drawn[stem] & set(drawn)]
            self.assertTrue(free, "a ring of imports among " + " ".join(drawn))
            for stem in free:
                drawn.pop(stem)

    def drawn_names(self, path):
        imports = [node for node in self.trees[path].body if isinstance(node, ast.ImportFrom)]
        return [alias.name for node in imports for alias in node.names]

    def test_the_top_of_each_file(self):
        for path, tree in self.trees.items():
            defined = []
            for node in tree.body:
                with self.subTest(file=path.name, line=node.lineno):
                    if isinstance(node, ast.Assign):
                        self.assert_plain(node.value, defined, True)
                    elif isinstance(node, ast.Expr):
                        self.assertIsInstance(node.value.value, str)
                        self.assertEqual(node, tree.body[0])
                    else:
                        self.assertIsInstance(node, (ast.FunctionDef, ast.ClassDef, ast.ImportFrom))
                    if isinstance(node, ast.FunctionDef):
                        defined.append(node.name)
            bound = self.tops(path)
            self.assertEqual(len(bound), len(set(bound)), path.name)

    def assert_plain(self, value, defined, outer):
        if isinstance(value, ast.Name):
            self.assertIn(value.id, defined)
        elif isinstance(value, ast.Tuple):
            for part in value.elts:
                self.assert_plain(part, defined, False)
        elif isinstance(value, ast.Dict) and outer:
            for part in value.keys + value.values:
                self.assert_plain(part, defined, False)
        else:
            self.assertIsInstance(value, ast.Constant)

    def test_statements_and_expressions(self):
        for node in self.nodes(ast.stmt):
            with self.at(node):
                self.assertIsInstance(node, STATEMENTS)
                if isinstance(node, ast.Assign):
                    self.assertEqual(len(node.targets), 1)
                    self.assertIsInstance(node.targets[0], (ast.Name, ast.Attribute, ast.Subscript))
                if isinstance(node, (ast.For, ast.While)):
                    self.assertEqual(node.orelse, [])
                if isinstance(node, ast.Expr):
                    self.assertIsInstance(node.value, (ast.Call, ast.Constant))
        for node in self.nodes(ast.expr):
            with self.at(node):
                self.assertIsInstance(node, EXPRESSIONS)
        for node in self.nodes(ast.Constant):
            with self.at(node):
                self.assertTrue(node.value is None or isinstance(node.value, (bool, int, str)))
                if isinstance(node.value, str):
                    self.assertNotIn("%", node.value)
        for node in self.nodes(ast.BinOp, ast.AugAssign):
            with self.at(node):
                self.assertNotIsInstance(node.op, (ast.Div, ast.Pow, ast.MatMult))
        for node in self.nodes(ast.Compare):
            with self.at(node):
                for op, other in zip(node.ops, node.comparators):
                    if isinstance(op, (ast.Is, ast.IsNot)):
                        self.assertIn(other.value, (None, True, False))
        for node in self.nodes(ast.ListComp):
            with self.at(node):
                self.assertEqual(len(node.generators), 1)
                self.assertLessEqual(len(node.generators[0].ifs), 1)

    def test_functions_and_classes(self):
        for node in self.nodes(ast.FunctionDef):
            with self.at(node):
                self.assertEqual(node.decorator_list, [])
                self.assertIsNone(node.returns)
                given = node.args
                self.assertFalse(given.vararg or given.kwarg or given.kwonlyargs or given.posonlyargs)
                self.assertFalse([part for part in given.args if part.annotation])
                self.assertTrue(all(isinstance(value, ast.Constant) for value in given.defaults))
        methods = set()
        for node in self.nodes(ast.ClassDef):
            with self.at(node):
                self.assertEqual(node.decorator_list, [])
                for part in node.body:
                    docstring = part == node.body[0] and isinstance(part, ast.Expr)
                    self.assertTrue(docstring or isinstance(part, ast.FunctionDef))
                names = [part.name for part in node.body if isinstance(part, ast.FunctionDef)]
                self.assertEqual(len(names), len(set(names)))
                methods |= set(names) - {"__init__"}
        values = {node.attr for node in self.nodes(ast.Attribute) if isinstance(node.ctx, ast.Store)}
        self.assertEqual(methods & values, set())
        self.assertEqual(values & NO_VALUES, set())
        self.assertEqual((values & OWN) - MAY_BE_VALUES, set())
        self.assertEqual((methods & OWN) - METHODS, set())

    def test_names(self):
        for path, tree in self.trees.items():
            tops = self.tops(path)
            classes = [node.name for node in tree.body if isinstance(node, ast.ClassDef)]
            taken = set(classes) | set(self.drawn_names(path)) | set(dir(builtins))
            for node in ast.walk(tree):
                if not isinstance(node, ast.FunctionDef):
                    continue
                local = {part.arg for part in node.args.args}
                local |= {part.id for part in ast.walk(node) if isinstance(part, ast.Name) and part.id != "self"
                          and isinstance(part.ctx, ast.Store)}
                with self.subTest(file=path.name, function=node.name):
                    self.assertEqual(local & taken, set())
                    self.assertNotIn(node.name, dir(builtins))
                    read = {part.id for part in ast.walk(node) if isinstance(part, ast.Name)}
                    self.assertEqual(read - local - set(tops) - BUILTINS, set())
        for node in self.nodes(ast.Name, ast.Attribute, ast.FunctionDef, ast.arg):
            with self.at(node):
                name = [getattr(node, kind) for kind in ("id", "attr", "name", "arg") if hasattr(node, kind)][0]
                self.assertNotIn(name, NO_NAMES)
                self.assertTrue(name == "__init__" or not name.startswith("_"), name)

    def test_methods_that_are_called(self):
        parts = [part for node in self.nodes(ast.ClassDef) for part in node.body]
        own = {part.name for part in parts if isinstance(part, ast.FunctionDef)}
        for node in self.nodes(ast.Call):
            with self.at(node):
                if isinstance(node.func, ast.Attribute):
                    self.assertIn(node.func.attr, own | METHODS)

    def test_what_the_top_holds_is_only_read(self):
        for path in self.trees:
            held = {name for name in self.tops(path) if name.isupper()}
            for node in ast.walk(self.trees[path]):
                if isinstance(node, (ast.Attribute, ast.Subscript)) and isinstance(node.value, ast.Name):
                    with self.subTest(file=path.name, line=node.lineno):
                        self.assertFalse(node.value.id in held and not isinstance(node.ctx, ast.Load))
                        self.assertFalse(node.value.id in held and isinstance(node, ast.Attribute))

    def test_errors(self):
        for node in self.nodes(ast.Try):
            with self.at(node):
                self.assertEqual(node.finalbody, [])
                for handler in node.handlers:
                    self.assertEqual(handler.type.id, "Bell")
        for node in self.nodes(ast.Raise):
            with self.at(node):
                self.assertIsInstance(node.exc, ast.Call)


if __name__ == "__main__":
    unittest.main()
