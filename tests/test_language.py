"""The rules of ../shared/LANGUAGE.md that can be seen in a file's text or tree; not all of them can."""

import ast
import builtins
import pathlib
import re
import unittest

PACKAGE = pathlib.Path(__file__).resolve().parent.parent / "choicetriangle"
FILES = {path.stem: path for path in PACKAGE.glob("*.py")}
TREES = {stem: ast.parse(path.read_text()) for stem, path in FILES.items()}

OWN_NAMES = """len range enumerate zip min max sum abs sorted reversed int str bool list tuple dict set frozenset
isinstance ord repr any all divmod""".split()
METHODS = """append clear copy count endswith extend find get index insert isalnum isalpha isdigit islower isspace
isupper items join keys ljust lower lstrip partition pop remove replace reverse rfind rjust rpartition rsplit rstrip
setdefault split splitlines startswith strip update upper values zfill bit_length""".split()
NOT_WORDS = """type typing typing_extensions enum Enum IntEnum StrEnum Flag IntFlag Generic Protocol ABC ABCMeta
namedtuple NamedTuple TypedDict TYPE_CHECKING abstractmethod""".split()
NOT_NAMES = """register mro elements open input version_info with_traceback add_note attrgetter builtins gc importlib
methodcaller os sys""".split()
WALKED = ["zip", "enumerate", "reversed", "range"]
WALKERS = ["list", "tuple", "dict", "sorted", "sum", "any", "all", "enumerate", "zip", "min", "max"]
KINDS = """Module Expr Constant ImportFrom alias FunctionDef ClassDef arguments arg Assign AugAssign If While For
Return Break Continue Pass Raise Try ExceptHandler Name Attribute Subscript Slice Call keyword List Tuple Dict
ListComp comprehension BinOp UnaryOp BoolOp Compare IfExp Load Store Add Sub Mult FloorDiv Mod Pow BitAnd BitOr
BitXor LShift RShift Invert USub Not And Or Eq NotEq Lt LtE Gt GtE Is IsNot In NotIn""".split()


def bound_names(tree):
    """All names that the file binds, but for its imports."""
    found = [node.id for node in ast.walk(tree) if isinstance(node, ast.Name) and isinstance(node.ctx, ast.Store)]
    found += [node.arg for node in ast.walk(tree) if isinstance(node, ast.arg)]
    return found + [node.name for node in ast.walk(tree) if isinstance(node, (ast.FunctionDef, ast.ClassDef))]


def imports(tree):
    return [node for node in tree.body if isinstance(node, ast.ImportFrom)]


def imported_names(tree):
    return [alias.name for node in imports(tree) for alias in node.names]


def top_names(tree):
    found = [node.name for node in tree.body if isinstance(node, (ast.FunctionDef, ast.ClassDef))]
    return found + [node.targets[0].id for node in tree.body if isinstance(node, ast.Assign)]


def called(node):
    return node.func.id if isinstance(node, ast.Call) and isinstance(node.func, ast.Name) else None


class Texts(unittest.TestCase):
    def test_files(self):
        for path in PACKAGE.iterdir():
            if path.name != "__pycache__":
                self.assertRegex(path.name, r"^(__init__|[a-z][a-z0-9_]*)\.py$")
                self.assertNotIn(path.stem, dir(builtins))

    def test_signs_and_sizes(self):
        for stem, path in FILES.items():
            text = path.read_bytes().decode("ascii")
            self.assertRegex(text, r"\A[ -~\n]*\Z", stem)
            self.assertLessEqual(len(text.splitlines()), 400, stem)
            self.assertLessEqual(max(len(line) for line in text.splitlines()), 120, stem)
            for node in ast.walk(TREES[stem]):
                if isinstance(node, ast.FunctionDef):
                    self.assertLessEqual(node.end_lineno - node.lineno + 1, 40, node.name)

    def test_words(self):
        for stem, path in FILES.items():
            text = path.read_text()
            self.assertEqual([word for word in re.findall(r"\w+", text) if word in NOT_WORDS], [], stem)
            self.assertNotRegex(text, "dataclass|overload|contextmanager", stem)


class Names(unittest.TestCase):
    def test_bound_names(self):
        for stem, tree in TREES.items():
            for name in bound_names(tree):
                self.assertTrue(name == "__init__" or re.match(r"^[A-Za-z]\w*$", name), (stem, name))
                self.assertNotIn(name, dir(builtins) + NOT_NAMES + imported_names(tree), stem)
            self.assertEqual(len(top_names(tree)), len(set(top_names(tree))), stem)

    def test_names_that_are_read(self):
        for stem, tree in TREES.items():
            known = bound_names(tree) + imported_names(tree) + OWN_NAMES
            read = [node.id for node in ast.walk(tree) if isinstance(node, ast.Name)]
            self.assertEqual([name for name in read if name not in known], [], stem)

    def test_methods_and_values(self):
        values = [node.attr for tree in TREES.values() for node in ast.walk(tree)
                  if isinstance(node, ast.Attribute) and isinstance(node.ctx, ast.Store)]
        python_own = {name for kind in (str, int, list, dict, set, bytes) for name in dir(kind)}
        self.assertEqual([name for name in values if name in python_own], [])
        for stem, tree in TREES.items():
            for node in ast.walk(tree):
                if isinstance(node, ast.Attribute):
                    self.assertIn(node.attr, METHODS + values, stem)

    def test_imports(self):
        for stem, tree in TREES.items():
            for node in imports(tree):
                self.assertEqual(node.level, 0)
                package, source = node.module.split(".")
                self.assertEqual(package, "choicetriangle")
                for alias in node.names:
                    self.assertIn(alias.name, top_names(TREES[source]), stem)
                    self.assertIsNone(alias.asname)

    def test_no_two_files_draw_from_one_another(self):
        drawn = {stem: {node.module.split(".")[1] for node in imports(tree)} for stem, tree in TREES.items()}
        while drawn:
            free = [stem for stem in drawn if not drawn[stem] & set(drawn)]
            self.assertNotEqual(free, [], drawn)
            for stem in free:
                drawn.pop(stem)


class Trees(unittest.TestCase):
    def test_kinds_of_nodes(self):
        for stem, tree in TREES.items():
            for node in ast.walk(tree):
                self.assertIn(type(node).__name__, KINDS, (stem, getattr(node, "lineno", None)))
                if isinstance(node, ast.Constant):
                    self.assertIn(type(node.value), [int, str, bool, type(None)])
                if isinstance(node, ast.ListComp):
                    self.assertEqual(len(node.generators), 1)
                    self.assertLessEqual(len(node.generators[0].ifs), 1)
                if isinstance(node, (ast.For, ast.While)):
                    self.assertEqual(node.orelse, [])
                if isinstance(node, ast.Assign):
                    self.assertEqual(len(node.targets), 1)
                    self.assertNotIsInstance(node.targets[0], (ast.Tuple, ast.List))
                if isinstance(node, ast.BinOp) and isinstance(node.op, ast.Pow):
                    self.assertIsInstance(node.right, ast.Constant)

    def test_the_top_of_a_file(self):
        for stem, tree in TREES.items():
            self.assertIsNotNone(ast.get_docstring(tree), stem)
            for node in tree.body[1:]:
                self.assertIsInstance(node, (ast.ImportFrom, ast.FunctionDef, ast.ClassDef, ast.Assign))
                if isinstance(node, ast.Assign):
                    self.check_plain(node.value, top_names(tree))

    def check_plain(self, value, own):
        if isinstance(value, ast.Tuple):
            for part in value.elts:
                self.check_plain(part, own)
        elif isinstance(value, ast.Name):
            self.assertIn(value.id, own)
        else:
            ast.literal_eval(value)

    def test_functions(self):
        for tree in TREES.values():
            for node in ast.walk(tree):
                if isinstance(node, ast.FunctionDef):
                    given = node.args
                    self.assertEqual([given.vararg, given.kwarg, given.kwonlyargs, given.posonlyargs],
                                     [None, None, [], []])
                    self.assertEqual(node.decorator_list, [])

    def test_walked_at_once(self):
        for stem, tree in TREES.items():
            fine = []
            for node in ast.walk(tree):
                if isinstance(node, (ast.For, ast.comprehension)):
                    fine.append(node.iter)
                if called(node) in WALKERS and node.args:
                    fine.extend(node.args if called(node) == "zip" else node.args[:1])
            for node in ast.walk(tree):
                if called(node) in WALKED:
                    self.assertIn(node, fine, (stem, node.lineno))

    def test_texts_and_keywords(self):
        for stem, tree in TREES.items():
            for node in ast.walk(tree):
                if isinstance(node, ast.Constant) and isinstance(node.value, str):
                    self.assertNotRegex(node.value, r"[%\\]", stem)
                # None is written anywhere so far; those that the rules allow would be named here.
                self.assertNotIsInstance(node, ast.keyword, stem)

    def test_is_stands_beside_none_true_and_false_alone(self):
        for tree in TREES.values():
            for node in ast.walk(tree):
                if isinstance(node, ast.Compare) and isinstance(node.ops[0], (ast.Is, ast.IsNot)):
                    self.assertIsInstance(node.comparators[0], ast.Constant)


if __name__ == "__main__":
    unittest.main()
