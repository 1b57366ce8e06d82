"""The part of Python that the package keeps to, as far as it can be seen in the written code (rules L1 to L28)."""

import ast
import pathlib
import re
import unittest

PACKAGE = pathlib.Path(__file__).resolve().parent.parent / "knockwright"

OWN_NAMES = """len range enumerate zip min max sum abs sorted reversed int str bool list tuple dict set frozenset
isinstance ord repr any all divmod Exception ValueError TypeError KeyError IndexError LookupError ZeroDivisionError
ArithmeticError OverflowError RuntimeError NotImplementedError AttributeError StopIteration""".split()

METHODS = """append clear copy count endswith extend find get index insert isalnum isalpha isdigit islower isspace
isupper items join keys ljust lower lstrip partition pop remove replace reverse rfind rjust rpartition rsplit rstrip
setdefault split splitlines startswith strip update upper values zfill bit_length""".split()

NODES = """Module ImportFrom alias FunctionDef ClassDef Lambda arguments arg Assign AugAssign If While For Return
Break Continue Pass Raise Try ExceptHandler Expr Constant Name Attribute Subscript Slice List Tuple Dict Set Call
keyword ListComp comprehension JoinedStr FormattedValue BinOp UnaryOp BoolOp Compare IfExp Load Store
Add Sub Mult FloorDiv Mod Pow BitAnd BitOr BitXor LShift RShift Invert USub UAdd Not And Or
Eq NotEq Lt LtE Gt GtE Is IsNot In NotIn""".split()

UNDERSCORED = ["__init__", "__eq__", "__repr__", "__str__", "__len__"]

BARRED_WORDS = """type typing typing_extensions enum Enum IntEnum StrEnum Flag IntFlag Generic Protocol ABC ABCMeta
namedtuple NamedTuple TypedDict TYPE_CHECKING abstractmethod""".split()
BARRED_PARTS = ["dataclass", "overload", "contextmanager"]
BARRED_NAMES = """register mro elements open input version_info with_traceback add_note attrgetter breakpoint builtins
compile copyright credits delattr dir eval exec exit gc getattr globals hasattr help id importlib license locals
methodcaller os quit setattr super vars sys format format_map""".split()


def sources():
    return sorted(PACKAGE.rglob("*.py"))


def tree_of(path):
    return ast.parse(path.read_text(encoding="utf-8"))


def nodes_of(kind):
    return [(path.name, node) for path in sources() for node in ast.walk(tree_of(path)) if isinstance(node, kind)]


def top_names(path):
    names = []
    for node in tree_of(path).body:
        if isinstance(node, (ast.FunctionDef, ast.ClassDef)):
            names.append(node.name)
        if isinstance(node, ast.Assign):
            names.extend(target.id for target in node.targets)
    return names


def drawn_from(path):
    return [node for node in tree_of(path).body if isinstance(node, ast.ImportFrom)]


class Files(unittest.TestCase):
    def test_files_are_plain(self):
        self.assertTrue((PACKAGE / "__init__.py").is_file())
        for path in PACKAGE.rglob("*"):
            if "__pycache__" not in path.parts:
                self.assertRegex(path.name, r"^[a-z][a-z0-9_]*\.py$|^__init__\.py$")

    def test_signs_and_sizes(self):
        for path in sources():
            text = path.read_bytes().decode("ascii")
            self.assertRegex(text, r"\A[ -~\n]*\Z", path.name)
            lines = text.splitlines()
            self.assertLessEqual(len(lines), 400, path.name)
            self.assertLessEqual(max(len(line) for line in lines), 120, path.name)
        for name, node in nodes_of(ast.FunctionDef):
            self.assertLessEqual(node.end_lineno - node.lineno + 1, 40, (name, node.name))

    def test_barred_words(self):
        for path in sources():
            text = path.read_text(encoding="ascii")
            self.assertEqual(sorted(set(re.findall(r"\w+", text)) & set(BARRED_WORDS)), [], path.name)
            self.assertEqual([part for part in BARRED_PARTS if part in text], [], path.name)


class Tops(unittest.TestCase):
    def test_what_stands_at_a_top(self):
        for path in sources():
            body = tree_of(path).body
            self.assertIsInstance(body[0], ast.Expr, path.name)
            for node in body[1:]:
                self.assertIsInstance(node, (ast.ImportFrom, ast.Assign, ast.FunctionDef, ast.ClassDef), path.name)

    def test_each_name_once(self):
        for path in sources():
            names = top_names(path) + [part.name for node in drawn_from(path) for part in node.names]
            self.assertEqual(len(names), len(set(names)), path.name)

    def test_imports_draw_from_the_defining_file(self):
        for path in sources():
            for node in drawn_from(path):
                package, file = node.module.split(".")
                self.assertEqual((node.level, package), (0, "knockwright"), path.name)
                for part in node.names:
                    self.assertIn(part.name, top_names(PACKAGE / (file + ".py")), path.name)
        for name, node in nodes_of(ast.ImportFrom):
            self.assertEqual(node.col_offset, 0, name)

    def test_no_two_files_draw_from_one_another(self):
        draws = {path.stem: {node.module.split(".")[1] for node in drawn_from(path)} for path in sources()}
        settled = []
        while draws:
            free = [stem for stem in draws if draws[stem] <= set(settled)]
            self.assertNotEqual(free, [], "a ring among " + ", ".join(sorted(draws)))
            settled.extend(free)
            draws = {stem: draws[stem] for stem in draws if stem not in free}

    def test_the_package_itself_draws_from_nothing(self):
        self.assertEqual(drawn_from(PACKAGE / "__init__.py"), [])


class Code(unittest.TestCase):
    def test_kinds_of_code(self):
        for name, node in nodes_of(ast.AST):
            self.assertIn(node.__class__.__name__, NODES, (name, getattr(node, "lineno", 0)))

    def test_calls_alone_stand_by_themselves(self):
        for path in sources():
            tree = tree_of(path)
            for node in ast.walk(tree):
                if isinstance(node, ast.Expr) and node is not tree.body[0]:
                    self.assertIsInstance(node.value, ast.Call, (path.name, node.lineno))

    def test_functions_and_classes_are_plain(self):
        for name, node in nodes_of((ast.FunctionDef, ast.ClassDef)):
            self.assertEqual(node.decorator_list, [], (name, node.name))
        for name, node in nodes_of(ast.arguments):
            extra = node.posonlyargs + node.kwonlyargs + [part for part in (node.vararg, node.kwarg) if part]
            self.assertEqual(extra, [], name)
        for name, node in nodes_of(ast.ClassDef):
            self.assertLessEqual(len(node.bases), 1, (name, node.name))
            for part in node.body:
                self.assertIsInstance(part, (ast.FunctionDef, ast.Pass), (name, node.name))

    def test_one_target(self):
        for name, node in nodes_of(ast.Assign):
            self.assertEqual(len(node.targets), 1, (name, node.lineno))

    def test_comprehensions_have_one_walk(self):
        for name, node in nodes_of(ast.ListComp):
            self.assertEqual(len(node.generators), 1, (name, node.lineno))
            self.assertLessEqual(len(node.generators[0].ifs), 1, (name, node.lineno))

    def test_values(self):
        for name, node in nodes_of(ast.Constant):
            self.assertIsInstance(node.value, (int, str, type(None)), (name, node.lineno))
            if isinstance(node.value, str):
                self.assertNotIn("%", node.value, (name, node.lineno))

    def test_written_exponents(self):
        for name, node in nodes_of(ast.BinOp):
            if isinstance(node.op, ast.Pow):
                self.assertIsInstance(node.right, ast.Constant, (name, node.lineno))
                self.assertIn(node.right.value, range(65), (name, node.lineno))

    def test_is_stands_beside_none_and_truths(self):
        for name, node in nodes_of(ast.Compare):
            if isinstance(node.ops[0], (ast.Is, ast.IsNot)):
                self.assertIn(ast.unparse(node.comparators[0]), ["None", "True", "False"], (name, node.lineno))


def parents_of(path):
    tree = tree_of(path)
    return [(child, node) for node in ast.walk(tree) for child in ast.iter_child_nodes(node)]


def called(node):
    return node.func.id if isinstance(node, ast.Call) and isinstance(node.func, ast.Name) else None


class Calls(unittest.TestCase):
    def test_what_is_walked_at_once(self):
        walked = ["zip", "enumerate", "reversed", "range"]
        takers = ["list", "tuple", "dict", "sorted", "sum", "any", "all", "enumerate", "zip", "min", "max"]
        for path in sources():
            for child, node in parents_of(path):
                if called(child) in walked:
                    loop = isinstance(node, (ast.For, ast.comprehension)) and node.iter is child
                    join = isinstance(node, ast.Call) and getattr(node.func, "attr", None) == "join"
                    self.assertTrue(loop or join or called(node) in takers, (path.name, child.lineno))

    def test_sets_are_not_kept(self):
        for path in sources():
            for child, node in parents_of(path):
                if isinstance(child, ast.Set) or called(child) in ("set", "frozenset"):
                    beside = isinstance(node, ast.Compare) or called(node) in ("sorted", "len")
                    self.assertTrue(beside, (path.name, child.lineno))

    def test_keywords(self):
        for name, node in nodes_of(ast.Call):
            words = [word.arg for word in node.keywords]
            self.assertLessEqual(set(words), {"key", "reverse", "default", "start", "strict"}, (name, node.lineno))

    def test_errors_are_made_on_the_spot(self):
        for name, node in nodes_of(ast.Raise):
            self.assertIsInstance(node.exc, ast.Call, (name, node.lineno))
        for name, node in nodes_of(ast.ExceptHandler):
            self.assertNotIn(ast.unparse(node.type or ast.Name("Exception")), ["Exception", "TypeError"], name)


class Names(unittest.TestCase):
    def test_nothing_is_called_like_an_import_or_a_class_of_its_file(self):
        for path in sources():
            taken = [part.name for node in drawn_from(path) for part in node.names]
            taken += [node.name for node in tree_of(path).body if isinstance(node, ast.ClassDef)]
            for node in ast.walk(tree_of(path)):
                if isinstance(node, ast.arg):
                    self.assertNotIn(node.arg, taken, (path.name, node.lineno))
                if isinstance(node, ast.Name) and isinstance(node.ctx, ast.Store):
                    self.assertNotIn(node.id, taken, (path.name, node.lineno))

    def test_each_import_is_used(self):
        for path in sources():
            read = [node.id for node in ast.walk(tree_of(path)) if isinstance(node, ast.Name)]
            for node in drawn_from(path):
                for part in node.names:
                    self.assertIn(part.name, read, path.name)

    def bound_names(self, path):
        bound = top_names(path) + [part.name for node in drawn_from(path) for part in node.names]
        for node in ast.walk(tree_of(path)):
            if isinstance(node, ast.Name) and isinstance(node.ctx, ast.Store):
                bound.append(node.id)
            if isinstance(node, ast.arg):
                bound.append(node.arg)
            if isinstance(node, (ast.FunctionDef, ast.ExceptHandler)) and node.name:
                bound.append(node.name)
        return bound

    def test_names_are_plain_and_none_of_python(self):
        barred = set(dir(__builtins__) if not isinstance(__builtins__, dict) else __builtins__) | set(BARRED_NAMES)
        for path in sources():
            for name in self.bound_names(path):
                if name not in UNDERSCORED:
                    self.assertRegex(name, r"^[A-Za-z][A-Za-z0-9_]*$", path.name)
                    self.assertNotIn(name, barred, path.name)

    def test_names_that_are_read_are_known(self):
        for path in sources():
            known = set(self.bound_names(path)) | set(OWN_NAMES)
            for node in ast.walk(tree_of(path)):
                if isinstance(node, ast.Name):
                    self.assertIn(node.id, known, (path.name, node.lineno))

    def test_methods_and_values(self):
        values = {node.attr for name, node in nodes_of(ast.Attribute) if isinstance(node.ctx, ast.Store)}
        own = {part.name for name, node in nodes_of(ast.ClassDef) for part in node.body if hasattr(part, "name")}
        self.assertEqual(values & own, set())
        for name, node in nodes_of(ast.Attribute):
            self.assertIn(node.attr, values | own | set(METHODS), (name, node.lineno))
            self.assertNotIn(node.attr, BARRED_NAMES, (name, node.lineno))


if __name__ == "__main__":
    unittest.main()
