"""The package's own files keep to the small part of Python, as far as a test can see it."""

import ast
import builtins
import pathlib
import re
import unittest

PACKAGE = pathlib.Path(__file__).resolve().parent.parent / "goingon"

OWN_NAMES = set("""len range enumerate zip min max sum abs sorted reversed int str bool list tuple dict set frozenset
isinstance ord repr any all divmod Exception ValueError TypeError KeyError IndexError LookupError ZeroDivisionError
ArithmeticError OverflowError RuntimeError NotImplementedError AttributeError StopIteration""".split())

OWN_METHODS = set("""append clear copy count endswith extend find get index insert isalnum isalpha isdigit islower
isspace isupper items join keys ljust lower lstrip partition pop remove replace reverse rfind rjust rpartition rsplit
rstrip setdefault split splitlines startswith strip update upper values zfill bit_length""".split())

DOUBLE_METHODS = {"__init__", "__eq__", "__repr__", "__str__", "__len__"}

NODES = (ast.AsyncFor, ast.AsyncFunctionDef, ast.AsyncWith, ast.Await, ast.Yield, ast.YieldFrom, ast.With, ast.Match,
         ast.Delete, ast.Global, ast.Nonlocal, ast.Assert, ast.Set, ast.SetComp, ast.DictComp, ast.GeneratorExp,
         ast.NamedExpr, ast.Starred, ast.Div, ast.AnnAssign, ast.Import, ast.MatMult)

WORDS = set("""type typing typing_extensions enum Enum IntEnum StrEnum Flag IntFlag Generic Protocol ABC ABCMeta
namedtuple NamedTuple TypedDict TYPE_CHECKING abstractmethod""".split())

NOT_NAMES = set("""register mro elements open input version_info with_traceback add_note attrgetter breakpoint builtins
compile copyright credits delattr dir eval exec exit gc getattr globals hasattr help id importlib license locals
methodcaller os quit setattr super type vars sys format format_map""".split())


def files():
    return sorted(PACKAGE.rglob("*.py"))


def trees():
    return [(path.name, ast.parse(path.read_text(encoding="ascii"))) for path in files()]


def nodes(*kinds):
    return [(name, node) for name, tree in trees() for node in ast.walk(tree) if isinstance(node, kinds)]


class Files(unittest.TestCase):
    def test_there_are_files(self):
        names = [path.name for path in files()]
        for name in ("__init__.py", "few.py", "net.py"):
            self.assertIn(name, names)

    def test_nothing_else_lies_there(self):
        for path in PACKAGE.iterdir():
            if path.name != "__pycache__":
                self.assertRegex(path.name, r"\A([a-z][a-z0-9_]*|__init__)\.py\Z")

    def test_signs_and_sizes(self):
        for path in files():
            lines = path.read_text(encoding="ascii").split("\n")
            self.assertLessEqual(len(lines), 401, path)
            for line in lines:
                self.assertLessEqual(len(line), 120, path)
                self.assertRegex(line, r"\A[ -~]*\Z")

    def test_words(self):
        for path in files():
            text = path.read_text(encoding="ascii")
            self.assertFalse(set(re.findall(r"\w+", text)) & WORDS, path)
            self.assertNotRegex(text, "dataclass|overload|contextmanager")


class Tops(unittest.TestCase):
    def test_imports(self):
        for name, node in nodes(ast.ImportFrom):
            self.assertEqual(node.level, 0, name)
            self.assertRegex(node.module, r"\Agoingon\.[a-z]+\Z", name)
            source = ast.parse((PACKAGE / (node.module.split(".")[1] + ".py")).read_text(encoding="ascii"))
            for alias in node.names:
                self.assertIn(alias.name, top_names(source), name)

    def test_no_two_files_draw_from_one_another(self):
        drawn = {}
        for path in files():
            tree = ast.parse(path.read_text(encoding="ascii"))
            drawn[path.stem] = [node.module.split(".")[1] for node in ast.walk(tree) if isinstance(node, ast.ImportFrom)]
        while drawn:
            free = [stem for stem in drawn if not any(other in drawn for other in drawn[stem])]
            self.assertTrue(free, drawn)
            drawn = {stem: others for stem, others in drawn.items() if stem not in free}

    def test_each_name_is_bound_once(self):
        for name, tree in trees():
            names = top_names(tree)
            self.assertEqual(len(names), len(set(names)), name)

    def test_what_stands_there(self):
        for name, tree in trees():
            for number, node in enumerate(tree.body):
                if isinstance(node, ast.Expr):
                    self.assertEqual(number, 0, name)
                    self.assertIsInstance(node.value.value, str)
                elif isinstance(node, ast.Assign):
                    ast.literal_eval(node.value)
                else:
                    self.assertIsInstance(node, (ast.ImportFrom, ast.FunctionDef, ast.ClassDef), name)


def top_names(tree):
    names = []
    for node in tree.body:
        if isinstance(node, ast.Assign):
            names.append(node.targets[0].id)
        elif isinstance(node, (ast.FunctionDef, ast.ClassDef)):
            names.append(node.name)
    return names


class Code(unittest.TestCase):
    def test_nodes_that_are_not_used(self):
        self.assertEqual([(name, node.lineno) for name, node in nodes(*NODES) if hasattr(node, "lineno")], [])
        self.assertEqual([name for name, node in nodes(ast.Div, ast.MatMult)], [])

    def test_statements(self):
        for name, node in nodes(ast.Assign):
            self.assertEqual(len(node.targets), 1, name)
        for name, node in nodes(ast.For, ast.While):
            self.assertEqual(node.orelse, [], name)
        for name, node in nodes(ast.Try):
            self.assertEqual(node.finalbody, [], name)
            for handler in node.handlers:
                self.assertIsInstance(handler.type, ast.Name)
                self.assertNotIn(handler.type.id, ("Exception", "TypeError"))

    def test_functions(self):
        for name, node in nodes(ast.FunctionDef):
            self.assertLessEqual(node.end_lineno - node.lineno + 1, 40, name)
            self.assertEqual(node.decorator_list, [], name)
            given = node.args
            self.assertEqual((given.vararg, given.kwarg, given.kwonlyargs, given.posonlyargs), (None, None, [], []))
            self.assertIsNone(node.returns)

    def test_classes(self):
        methods, values = set(), set()
        for name, node in nodes(ast.ClassDef):
            self.assertLessEqual(len(node.bases), 1, name)
            for inner in node.body:
                self.assertIsInstance(inner, ast.FunctionDef, name)
                if not inner.name.startswith("__"):
                    methods.add(inner.name)
        for name, node in nodes(ast.Attribute):
            if isinstance(node.ctx, ast.Store):
                values.add(node.attr)
        self.assertFalse(methods & values)
        python = {attribute for kind in (str, int, list, dict, set, bytes) for attribute in builtins.dir(kind)}
        self.assertFalse((methods | values) & python)

    def test_attributes(self):
        defined = {node.name for name, node in nodes(ast.FunctionDef)}
        stored = {node.attr for name, node in nodes(ast.Attribute) if isinstance(node.ctx, ast.Store)}
        for name, node in nodes(ast.Attribute):
            self.assertIn(node.attr, defined | stored | OWN_METHODS, name)

    def test_is_stands_beside_none_alone(self):
        for name, node in nodes(ast.Compare):
            for operator, right in zip(node.ops, node.comparators):
                if isinstance(operator, (ast.Is, ast.IsNot)):
                    self.assertIsInstance(right, ast.Constant, name)
                    self.assertIn(right.value, (None, True, False), name)

    def test_python_s_own_are_called_not_kept(self):
        for name, tree in trees():
            called = [node.func for node in ast.walk(tree) if isinstance(node, ast.Call)]
            for node in ast.walk(tree):
                if isinstance(node, ast.Name) and node.id in OWN_NAMES and node.id.islower():
                    self.assertIn(node, called, (name, node.id))

    def test_names(self):
        python = set(builtins.dir(builtins))
        for name, node in nodes(ast.Name):
            if isinstance(node.ctx, ast.Load):
                self.assertTrue(node.id not in python or node.id in OWN_NAMES, (name, node.id))
            else:
                self.assertNotIn(node.id, python, name)
        for name, node in nodes(ast.arg):
            self.assertNotIn(node.arg, python, name)

    def test_names_are_plain(self):
        used = {node.id for name, node in nodes(ast.Name)} | {node.arg for name, node in nodes(ast.arg)}
        used |= {node.attr for name, node in nodes(ast.Attribute)}
        used |= {node.name for name, node in nodes(ast.FunctionDef, ast.ClassDef)}
        for name in used - DOUBLE_METHODS:
            self.assertRegex(name, r"\A[A-Za-z][A-Za-z0-9_]*\Z")
        self.assertFalse(used & NOT_NAMES)

    def test_no_local_is_called_like_a_class_or_an_import(self):
        for name, tree in trees():
            taken = {alias.name for node in tree.body if isinstance(node, ast.ImportFrom) for alias in node.names}
            taken |= {node.name for node in tree.body if isinstance(node, ast.ClassDef)}
            for function in [node for node in ast.walk(tree) if isinstance(node, ast.FunctionDef)]:
                for node in ast.walk(function):
                    if isinstance(node, ast.Name) and isinstance(node.ctx, ast.Store):
                        self.assertNotIn(node.id, taken, name)
                    if isinstance(node, ast.arg):
                        self.assertNotIn(node.arg, taken, name)

    def test_values(self):
        for name, node in nodes(ast.Constant):
            self.assertIsInstance(node.value, (int, str, type(None)), name)
        for name, node in nodes(ast.ListComp):
            self.assertEqual(len(node.generators), 1, name)
            self.assertLessEqual(len(node.generators[0].ifs), 1, name)
        for name, node in nodes(ast.Pow):
            self.fail(name)


if __name__ == "__main__":
    unittest.main()
