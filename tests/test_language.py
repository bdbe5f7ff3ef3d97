"""The package keeps to the part of Python that it's written in: what of L1 to L28 can be seen in the code."""

import ast
import builtins
import pathlib
import re
import unittest

PACKAGE = pathlib.Path(__file__).resolve().parent.parent / "roadrest"

OWN_NAMES = """len range enumerate zip min max sum abs sorted reversed int str bool list tuple dict set frozenset
isinstance ord repr any all divmod Exception ValueError TypeError KeyError IndexError LookupError ZeroDivisionError
ArithmeticError OverflowError RuntimeError NotImplementedError AttributeError StopIteration""".split()

METHODS = """append clear copy count endswith extend find get index insert isalnum isalpha isdigit islower isspace
isupper items join keys ljust lower lstrip partition pop remove replace reverse rfind rjust rpartition rsplit rstrip
setdefault split splitlines startswith strip update upper values zfill bit_length""".split()

WORDS = """type typing typing_extensions enum Enum IntEnum StrEnum Flag IntFlag Generic Protocol ABC ABCMeta namedtuple
NamedTuple TypedDict TYPE_CHECKING abstractmethod""".split()

UNUSED = """register mro elements open input version_info with_traceback add_note attrgetter breakpoint builtins compile
copyright credits delattr dir eval exec exit gc getattr globals hasattr help id importlib license locals methodcaller os
quit setattr super type vars sys""".split()

FILE_NAMES = "test tests testing site conftest sitecustomize usercustomize".split() + WORDS + dir(builtins)

NODES = (
    ast.Module, ast.FunctionDef, ast.ClassDef, ast.arguments, ast.arg, ast.Import, ast.ImportFrom, ast.alias,
    ast.Assign, ast.AugAssign, ast.If, ast.While, ast.For, ast.Return, ast.Break, ast.Continue, ast.Pass, ast.Raise,
    ast.Try, ast.ExceptHandler, ast.Expr, ast.Constant, ast.Name, ast.Attribute, ast.Subscript, ast.Slice, ast.List,
    ast.Tuple, ast.Dict, ast.Call, ast.keyword, ast.BinOp, ast.UnaryOp, ast.BoolOp, ast.Compare, ast.IfExp,
    ast.ListComp, ast.comprehension, ast.Lambda, ast.JoinedStr, ast.FormattedValue,
    ast.operator, ast.unaryop, ast.boolop, ast.cmpop, ast.expr_context,
)

WALKED = "zip enumerate reversed range".split()
WALKERS = "list tuple dict sorted sum any all enumerate zip min max".split()


def files():
    return sorted(PACKAGE.rglob("*.py"))


def trees():
    return [(path, ast.parse(path.read_text())) for path in files()]


def nodes(kind):
    return [(path, node) for path, tree in trees() for node in ast.walk(tree) if isinstance(node, kind)]


def bound_names(tree):
    """Every name that's given a meaning in the file."""
    found = []
    for node in ast.walk(tree):
        if isinstance(node, (ast.FunctionDef, ast.ClassDef)):
            found.append(node.name)
        elif isinstance(node, ast.arg):
            found.append(node.arg)
        elif isinstance(node, ast.Name) and isinstance(node.ctx, ast.Store):
            found.append(node.id)
        elif isinstance(node, ast.alias):
            found.append(node.asname or node.name)
    return found


def top_names(tree):
    found = []
    for node in tree.body:
        if isinstance(node, (ast.FunctionDef, ast.ClassDef)):
            found.append(node.name)
        elif isinstance(node, ast.Assign):
            found.append(node.targets[0].id)
        elif isinstance(node, ast.ImportFrom):
            found.extend(alias.name for alias in node.names)
    return found


class FilesTest(unittest.TestCase):
    def test_files_and_their_names(self):
        kept = [path for path in PACKAGE.rglob("*") if "__pycache__" not in path.parts]
        self.assertEqual(sorted(kept), files())
        self.assertIn(PACKAGE / "__init__.py", kept)
        for path in kept:
            self.assertRegex(path.name, r"^(__init__|[a-z][a-z0-9_]*)\.py$")
            self.assertNotIn(path.stem, FILE_NAMES)

    def test_signs_and_size(self):
        for path in files():
            text = path.read_text(encoding="utf-8")
            self.assertRegex(text, r"\A[ -~\n]*\Z")
            lines = text.split("\n")
            self.assertLessEqual(len(lines), 400, path)
            self.assertLessEqual(max(len(line) for line in lines), 120, path)
        for path, node in nodes(ast.FunctionDef):
            self.assertLessEqual(node.end_lineno - node.lineno + 1, 40, node.name)

    def test_words_that_stand_nowhere(self):
        for path in files():
            found = re.findall(r"\w+", path.read_text())
            self.assertEqual([word for word in found if word in WORDS], [])
            self.assertIsNone(re.search("dataclass|overload|contextmanager", path.read_text()))


class FormTest(unittest.TestCase):
    def test_only_these_forms(self):
        for path, node in nodes(ast.AST):
            self.assertIsInstance(node, NODES, f"{path.name}: {ast.dump(node)[:80]}")

    def test_imports(self):
        names = {path.stem: top_names(tree) for path, tree in trees()}
        drawn = {path.stem: [] for path, tree in trees()}
        self.assertEqual(nodes(ast.Import), [])
        for path, node in nodes(ast.ImportFrom):
            self.assertEqual(node.level, 0)
            self.assertRegex(node.module, r"^roadrest\.[a-z]+$")
            drawn[path.stem].append(node.module.split(".")[1])
            for alias in node.names:
                self.assertIsNone(alias.asname)
                self.assertIn(alias.name, names[node.module.split(".")[1]])
        while drawn:
            free = [name for name in drawn if not [other for other in drawn[name] if other in drawn]]
            self.assertNotEqual(free, [], "two files draw from one another")
            for name in free:
                del drawn[name]

    def test_the_top_of_each_file(self):
        plain = (ast.Constant, ast.List, ast.Tuple, ast.Dict, ast.Name, ast.UnaryOp, ast.USub, ast.Load)
        for path, tree in trees():
            self.assertIsNotNone(ast.get_docstring(tree), path)
            for node in tree.body[1:]:
                self.assertIsInstance(node, (ast.ImportFrom, ast.FunctionDef, ast.ClassDef, ast.Assign))
                if isinstance(node, ast.Assign):
                    for part in ast.walk(node.value):
                        self.assertIsInstance(part, plain)
                        if isinstance(part, (ast.List, ast.Dict)):
                            self.assertIs(part, node.value)
            self.assertEqual(len(set(top_names(tree))), len(top_names(tree)), path)
            self.assertTrue(all(node in tree.body for node in ast.walk(tree) if isinstance(node, ast.ClassDef)))

    def test_kept_lists_and_dicts_are_only_read(self):
        for path, tree in trees():
            kept = []
            for number, node in enumerate(tree.body):
                if isinstance(node, ast.Assign) and isinstance(node.value, (ast.List, ast.Dict)):
                    kept.append(node.targets[0].id)
                    above = [one.name for one in tree.body[:number] if isinstance(one, ast.FunctionDef)]
                    used = [part.id for part in ast.walk(node.value) if isinstance(part, ast.Name)]
                    self.assertEqual([name for name in used if name not in above], [], path)
            read = []
            for node in ast.walk(tree):
                if isinstance(node, ast.Subscript) and isinstance(node.ctx, ast.Load):
                    read.append(node.value)
                if isinstance(node, ast.Compare):
                    read.extend(node.comparators)
            for node in ast.walk(tree):
                if isinstance(node, ast.Name) and node.id in kept and isinstance(node.ctx, ast.Load):
                    self.assertIn(node, read, path)

    def test_classes_are_called(self):
        classes = [node.name for path, node in nodes(ast.ClassDef)]
        called = [node.func for path, tree in trees() for node in ast.walk(tree) if isinstance(node, ast.Call)]
        for path, node in nodes(ast.Call):
            self.assertFalse(isinstance(node.func, ast.Name) and node.func.id in ("isinstance", "chr"))
        names = [node for path, tree in trees() for node in ast.walk(tree) if isinstance(node, ast.Name)]
        self.assertEqual(len([one for one in names if one.id in classes]),
                         len([one for one in called if isinstance(one, ast.Name) and one.id in classes]))

    def test_keywords(self):
        allowed = {"sorted": ["key", "reverse"], "min": ["key", "default"], "max": ["key", "default"],
                   "sum": ["start"], "enumerate": ["start"], "zip": ["strict"]}
        for path, node in nodes(ast.Call):
            for word in node.keywords:
                self.assertIn(word.arg, allowed.get(ast.unparse(node.func), []), path)

    def test_functions_and_classes(self):
        for path, node in nodes(ast.FunctionDef):
            given = node.args
            self.assertEqual(node.decorator_list, [])
            self.assertIsNone(node.returns)
            self.assertFalse(given.vararg or given.kwarg or given.kwonlyargs or given.posonlyargs)
            self.assertEqual([one for one in given.args if one.annotation], [])
        for path, node in nodes(ast.ClassDef):
            self.assertEqual((node.decorator_list, node.keywords), ([], []))
            self.assertLessEqual(len(node.bases), 1)
            for part in node.body[1:]:
                self.assertIsInstance(part, ast.FunctionDef)

    def test_statements(self):
        for path, node in nodes(ast.Assign):
            self.assertEqual(len(node.targets), 1)
            self.assertIsInstance(node.targets[0], (ast.Name, ast.Attribute, ast.Subscript))
        for path, node in nodes((ast.For, ast.While)):
            self.assertEqual(node.orelse, [])
        for path, node in nodes(ast.Try):
            self.assertEqual(node.finalbody, [])
        for path, node in nodes(ast.Expr):
            self.assertIsInstance(node.value, (ast.Call, ast.Constant))
            self.assertIsInstance(getattr(node.value, "value", ""), str)

    def test_values(self):
        for path, node in nodes(ast.Constant):
            self.assertIn(type(node.value), (int, str, bool, type(None)))
            if type(node.value) is str:
                self.assertNotIn("%", node.value)
        for path, node in nodes((ast.BinOp, ast.AugAssign)):
            self.assertNotIsInstance(node.op, (ast.Div, ast.MatMult, ast.Pow))
        for path, node in nodes(ast.ListComp):
            self.assertEqual(len(node.generators), 1)
            self.assertLessEqual(len(node.generators[0].ifs), 1)
        for path, node in nodes(ast.Compare):
            if [one for one in node.ops if isinstance(one, (ast.Is, ast.IsNot))]:
                self.assertIsInstance(node.comparators[-1], ast.Constant)

    def test_no_walked_list_is_changed(self):
        changing = "append clear extend insert pop remove reverse setdefault update".split()
        for path, loop in nodes(ast.For):
            walked = {ast.unparse(part) for part in ast.walk(loop.iter) if isinstance(part, (ast.Name, ast.Attribute))}
            if isinstance(loop.iter, ast.Call) and ast.unparse(loop.iter.func) in ("range", "list"):
                continue
            for part in [part for line in loop.body for part in ast.walk(line)]:
                if isinstance(part, ast.Subscript) and isinstance(part.ctx, ast.Store):
                    self.assertNotIn(ast.unparse(part.value), walked)
                if isinstance(part, ast.Call) and isinstance(part.func, ast.Attribute) and part.func.attr in changing:
                    self.assertNotIn(ast.unparse(part.func.value), walked)


class NamesTest(unittest.TestCase):
    def test_plain_names(self):
        for path, tree in trees():
            for name in bound_names(tree):
                if name != "__init__":
                    self.assertRegex(name, r"^[A-Za-z][A-Za-z0-9_]*$")
                    self.assertNotIn(name, dir(builtins))
                    self.assertNotIn(name, UNUSED)

    def test_no_local_is_called_like_a_class_or_an_import(self):
        for path, tree in trees():
            taken = [node.name for node in tree.body if isinstance(node, ast.ClassDef)]
            taken += [alias.name for node in tree.body if isinstance(node, ast.ImportFrom) for alias in node.names]
            for node in ast.walk(tree):
                if isinstance(node, ast.arg):
                    self.assertNotIn(node.arg, taken)
                if isinstance(node, ast.Name) and isinstance(node.ctx, ast.Store):
                    self.assertNotIn(node.id, taken)

    def test_names_that_are_read(self):
        for path, tree in trees():
            known = bound_names(tree) + OWN_NAMES
            for node in ast.walk(tree):
                if isinstance(node, ast.Name) and isinstance(node.ctx, ast.Load):
                    self.assertIn(node.id, known, path)

    def test_methods_and_values(self):
        own_methods = set()
        own_values = set()
        for path, node in nodes(ast.ClassDef):
            own_methods |= {part.name for part in node.body if isinstance(part, ast.FunctionDef)}
        for path, node in nodes(ast.Attribute):
            if isinstance(node.ctx, ast.Store):
                own_values.add(node.attr)
        self.assertEqual(own_methods & own_values, set())
        pythons = {name for kind in (str, int, list, dict, set, bytes, tuple) for name in dir(kind)} - {"__init__"}
        self.assertEqual((own_methods | own_values) & pythons, set())
        called = [node.func for path, node in nodes(ast.Call)]
        for path, node in nodes(ast.Attribute):
            self.assertNotIn(node.attr, UNUSED)
            if node.attr in own_values:
                continue
            self.assertIn(node.attr, list(own_methods) + METHODS)
        self.assertTrue(all(isinstance(func, (ast.Name, ast.Attribute, ast.Subscript)) for func in called))

    def test_own_names_are_called_and_walked_on_the_spot(self):
        for path, tree in trees():
            called = [node.func for node in ast.walk(tree) if isinstance(node, ast.Call)]
            walked = [node.iter for node in ast.walk(tree) if isinstance(node, (ast.For, ast.comprehension))]
            for node in ast.walk(tree):
                if isinstance(node, ast.Call) and isinstance(node.func, ast.Name) and node.func.id in WALKERS:
                    walked += node.args[:1]
            for node in ast.walk(tree):
                if isinstance(node, ast.Name) and node.id in OWN_NAMES and node.id not in ("set", "frozenset"):
                    self.assertIn(node, called)
                self.assertFalse(isinstance(node, ast.Name) and node.id in ("set", "frozenset"))
                if isinstance(node, ast.Call) and isinstance(node.func, ast.Name) and node.func.id in WALKED:
                    self.assertIn(node, walked)


if __name__ == "__main__":
    unittest.main()
