"""What of ../shared/LANGUAGE.md can be seen by reading the package's files.

The rules that need more than a look at one statement are left to the reader.
"""

import ast
import builtins
import pathlib
import re
import unittest

ROOT = pathlib.Path(__file__).resolve().parent.parent
FOLDER = ROOT / "thinskin"
FILES = sorted(FOLDER.glob("*.py"))

ALLOWED_BUILTINS = set(
    "len range enumerate zip min max sum abs sorted reversed int str bool list tuple dict set isinstance ord repr"
    " any all divmod iter next Exception ValueError TypeError KeyError IndexError LookupError ZeroDivisionError"
    " ArithmeticError OverflowError RuntimeError NotImplementedError AttributeError StopIteration NotImplemented"
    " super property staticmethod classmethod".split())
ALLOWED_METHODS = set(
    "append clear copy count endswith extend find get index insert isalnum isalpha isdigit islower isspace isupper"
    " items join keys ljust lower lstrip partition pop remove replace reverse rfind rjust rpartition rsplit rstrip"
    " setdefault split splitlines startswith strip update upper values zfill bit_length isascii isdecimal sort"
    " add discard __init__".split())
BARRED_WORDS = set(
    "type typing typing_extensions enum Enum IntEnum StrEnum Flag IntFlag Generic Protocol ABC ABCMeta namedtuple"
    " NamedTuple TypedDict TYPE_CHECKING abstractmethod".split())
BARRED_PARTS = ["dataclass", "overload", "contextmanager"]
BARRED_NAMES = set(
    "register mro elements open input law version_info with_traceback add_note attrgetter breakpoint builtins compile"
    " copyright credits delattr dir eval exec exit gc getattr globals hasattr help id importlib license locals"
    " methodcaller os quit setattr vars sys format format_map".split())
BARRED_NODES = (
    ast.Global, ast.AsyncFunctionDef, ast.AsyncFor, ast.AsyncWith, ast.Await, ast.Import, ast.Div, ast.MatMult,
    ast.NamedExpr, ast.Yield, ast.YieldFrom, ast.Lambda)


TREES = [(path, ast.parse(path.read_text("ascii"))) for path in FILES]


def trees():
    return TREES


def nodes(kinds):
    for path, tree in trees():
        for node in ast.walk(tree):
            if isinstance(node, kinds):
                yield f"{path.name}:{getattr(node, 'lineno', 0)}", node


def bound_names(tree):
    """All names that a file gives a meaning to."""
    for node in ast.walk(tree):
        if isinstance(node, ast.Name) and not isinstance(node.ctx, ast.Load):
            yield node.id
        elif isinstance(node, (ast.FunctionDef, ast.ClassDef)):
            yield node.name
        elif isinstance(node, ast.arg):
            yield node.arg
        elif isinstance(node, ast.alias):
            yield node.asname or node.name
        elif isinstance(node, ast.ExceptHandler) and node.name:
            yield node.name


def is_call_of(node, name):
    return isinstance(node, ast.Call) and isinstance(node.func, ast.Name) and node.func.id == name


def stored_sets(function):
    """The names to which a function assigns a set."""
    for node in ast.walk(function):
        if isinstance(node, ast.Assign) and (isinstance(node.value, (ast.Set, ast.SetComp))
                                             or is_call_of(node.value, "set")):
            yield node.targets[0].id


class Files(unittest.TestCase):
    def test_the_folder_has_plainly_named_python_files_alone(self):
        names = [path.name for path in FOLDER.iterdir() if path.name != "__pycache__"]
        self.assertIn("__init__.py", names)
        for name in names:
            self.assertRegex(name, r"\A(__init__|[a-z][a-z0-9_]*)\.py\Z")

    def test_sizes_and_signs(self):
        for path in FILES:
            rows = path.read_text("ascii").split("\n")
            self.assertLessEqual(len(rows) - 1, 399, path.name)
            for at, row in enumerate(rows, start=1):
                self.assertRegex(row, r"\A[ -~]{0,120}\Z", f"{path.name}:{at}")
                self.assertEqual(row, row.rstrip(), f"{path.name}:{at}")

    def test_functions_are_short(self):
        for where, node in nodes(ast.FunctionDef):
            self.assertLessEqual(node.end_lineno - node.lineno + 1, 40, where)

    def test_barred_words(self):
        for path in FILES:
            text = path.read_text("ascii")
            self.assertEqual(set(re.findall(r"\w+", text)) & BARRED_WORDS, set(), path.name)
            self.assertEqual([part for part in BARRED_PARTS if part in text], [], path.name)


class Statements(unittest.TestCase):
    def test_module_level(self):
        for path, tree in trees():
            for at, node in enumerate(tree.body):
                where = f"{path.name}:{node.lineno}"
                if isinstance(node, ast.Expr):
                    self.assertEqual(at, 0, where)
                    self.assertIsInstance(node.value.value, str, where)
                elif isinstance(node, ast.Assign):
                    self.assertEqual([type(target) for target in node.targets], [ast.Name], where)
                else:
                    self.assertIsInstance(node, (ast.ImportFrom, ast.FunctionDef, ast.ClassDef), where)

    def test_names_at_module_level_are_bound_once(self):
        for path, tree in trees():
            names = []
            for node in tree.body:
                if isinstance(node, ast.ImportFrom):
                    names += [alias.asname or alias.name for alias in node.names]
                elif isinstance(node, ast.Assign):
                    names += [target.id for target in node.targets]
                elif isinstance(node, (ast.FunctionDef, ast.ClassDef)):
                    names.append(node.name)
            self.assertEqual(len(names), len(set(names)), path.name)

    def test_imports_name_the_file_that_defines(self):
        defined = {}
        for path, tree in trees():
            names = [node.name for node in tree.body if isinstance(node, (ast.FunctionDef, ast.ClassDef))]
            names += [node.targets[0].id for node in tree.body if isinstance(node, ast.Assign)]
            defined["thinskin." + path.stem] = names
        for path, tree in trees():
            for node in ast.walk(tree):
                if isinstance(node, ast.ImportFrom):
                    self.assertIn(node, tree.body)
                    self.assertEqual(node.level, 0)
                    for alias in node.names:
                        self.assertIn(alias.name, defined[node.module], f"{path.name}:{node.lineno}")

    def test_no_file_imports_itself_by_way_of_others(self):
        leads = {}
        for path, tree in trees():
            found = [node.module for node in ast.walk(tree) if isinstance(node, ast.ImportFrom)]
            leads["thinskin." + path.stem] = set(found)
        for start in leads:
            reached, left = set(), list(leads[start])
            while left:
                name = left.pop()
                if name not in reached:
                    reached.add(name)
                    left += leads[name]
            self.assertNotIn(start, reached)

    def test_barred_statements_and_signs(self):
        self.assertEqual([where for where, _ in nodes(BARRED_NODES)], [])
        for where, node in nodes(ast.FunctionDef):
            self.assertEqual(node.args.posonlyargs, [], where)
        for where, node in nodes(ast.Pow):
            self.fail(where)

    def test_is_only_with_none_true_and_false(self):
        for where, node in nodes(ast.Compare):
            for sign, right in zip(node.ops, node.comparators):
                if isinstance(sign, (ast.Is, ast.IsNot)):
                    self.assertIsInstance(right, ast.Constant, where)
                    self.assertIn(right.value, (None, True, False), where)

    def test_literals(self):
        for where, node in nodes(ast.Constant):
            self.assertNotIsInstance(node.value, (float, complex), where)
            if isinstance(node.value, str):
                self.assertNotIn("%", node.value, where)


class Sets(unittest.TestCase):
    def test_a_set_stands_where_its_order_is_not_seen(self):
        for path, tree in trees():
            above = {below: node for node in ast.walk(tree) for below in ast.iter_child_nodes(node)}
            for node in ast.walk(tree):
                if isinstance(node, (ast.Set, ast.SetComp)) or is_call_of(node, "set"):
                    over = above[node]
                    stored = isinstance(over, ast.Assign) and isinstance(over.targets[0], ast.Name)
                    asked = is_call_of(over, "sorted") or is_call_of(over, "len") or isinstance(over, ast.Compare)
                    self.assertTrue(stored or asked, f"{path.name}:{node.lineno}")

    def test_a_stored_set_is_only_added_to_and_asked(self):
        for where, function in nodes(ast.FunctionDef):
            above = {below: node for node in ast.walk(function) for below in ast.iter_child_nodes(node)}
            for name in stored_sets(function):
                for node in ast.walk(function):
                    if isinstance(node, ast.Name) and node.id == name and isinstance(node.ctx, ast.Load):
                        over = above[node]
                        added = isinstance(over, ast.Attribute) and over.attr in ("add", "discard")
                        asked = is_call_of(over, "sorted") or is_call_of(over, "len") or isinstance(over, ast.Compare)
                        self.assertTrue(added or asked, where)


class Classes(unittest.TestCase):
    def test_no_name_is_a_method_and_an_attribute(self):
        methods = {node.name for _, owner in nodes(ast.ClassDef) for node in owner.body
                   if isinstance(node, ast.FunctionDef)}
        assigned = {node.attr for _, node in nodes(ast.Attribute) if isinstance(node.ctx, ast.Store)}
        called = {id(node.func) for _, node in nodes(ast.Call)}
        self.assertEqual(methods & assigned, set())
        for where, node in nodes(ast.Attribute):
            if isinstance(node.ctx, ast.Load) and id(node) not in called and node.attr != "__init__":
                self.assertIn(node.attr, assigned, where)


class Names(unittest.TestCase):
    def test_names_are_plain(self):
        for path, tree in trees():
            for name in bound_names(tree):
                if name != "__init__":
                    self.assertRegex(name, r"\A[A-Za-z][A-Za-z0-9_]*\Z", path.name)
                    self.assertNotIn(name, BARRED_NAMES, path.name)
                    self.assertFalse(hasattr(builtins, name), f"{path.name}: {name}")

    def test_no_local_name_is_that_of_an_import_or_a_class(self):
        for path, tree in trees():
            taken = {alias.name for node in tree.body if isinstance(node, ast.ImportFrom) for alias in node.names}
            taken |= {node.name for node in tree.body if isinstance(node, ast.ClassDef)}
            for function in ast.walk(tree):
                if isinstance(function, ast.FunctionDef):
                    local = set(bound_names(function)) - {function.name}
                    self.assertEqual(local & taken, set(), f"{path.name}:{function.lineno}")

    def test_only_listed_builtins(self):
        for path, tree in trees():
            own = set(bound_names(tree))
            for node in ast.walk(tree):
                if isinstance(node, ast.Name) and node.id not in own:
                    self.assertIn(node.id, ALLOWED_BUILTINS, f"{path.name}:{node.lineno}")

    def test_only_listed_methods(self):
        own = {node.name for _, node in nodes(ast.FunctionDef)}
        for where, node in nodes(ast.Call):
            if isinstance(node.func, ast.Attribute):
                self.assertIn(node.func.attr, ALLOWED_METHODS | own, where)


if __name__ == "__main__":
    unittest.main()
