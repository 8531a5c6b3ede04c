"""The rules of LANGUAGE.md that a program can check, over all files of the package."""

import ast
import builtins
import re
import unittest
from pathlib import Path

PACKAGE = Path(__file__).resolve().parent.parent / "quietrows"
FILES = sorted(PACKAGE.rglob("*.py"))

LIBRARY = {
    "heapq": {"heappush", "heappop", "heapify", "heapreplace", "heappushpop"},
    "math": {"gcd", "lcm", "isqrt", "comb", "perm", "factorial"},
    "itertools": {"product", "combinations", "permutations", "chain", "accumulate", "pairwise", "islice",
                  "zip_longest"},
    "collections": {"defaultdict"},
    "__future__": {"annotations"},
}
BUILTINS = set("""len range enumerate zip min max sum abs sorted reversed int str bool bytes list tuple dict set
frozenset isinstance ord repr any all divmod pow getattr hasattr setattr iter next map super property staticmethod
classmethod object float Exception ValueError TypeError KeyError IndexError LookupError ZeroDivisionError
ArithmeticError OverflowError RuntimeError NotImplementedError AttributeError StopIteration
NotImplemented""".split())
METHODS = set("""append clear copy count endswith extend find get index insert isalnum isalpha isdigit islower isspace
isupper items join keys ljust lower lstrip partition pop remove replace reverse rfind rjust rpartition rsplit rstrip
setdefault split splitlines startswith strip update upper values zfill bit_length title capitalize swapcase casefold
center expandtabs removeprefix removesuffix rindex isascii isdecimal isnumeric istitle isidentifier isprintable
translate add discard sort format encode decode hex from_iterable maketrans""".split())
DUNDERS = set("""__init__ __eq__ __repr__ __str__ __len__ __enter__ __exit__ __call__ __iter__ __lt__ __le__ __gt__
__ge__ __ne__ __add__ __sub__ __mul__ __floordiv__ __mod__ __and__ __or__ __xor__ __neg__ __bool__ __contains__
__getitem__ __setitem__""".split())
BARRED_NAMES = {"register", "mro", "elements", "open", "input", "law", "version_info", "with_traceback", "add_note",
                "_cold", "_tuplegetter", "_outside", "_record", "_written_out", "_member_names"}
BARRED_WORDS = r"\b(type|typing|typing_extensions|enum|Enum|IntEnum|StrEnum|Flag|IntFlag|Generic|Protocol|ABC|ABCMeta" \
               r"|namedtuple|NamedTuple|TypedDict|TYPE_CHECKING|abstractmethod)\b|dataclass|overload|contextmanager"
BARRED_NODES = (ast.Global, ast.AsyncFunctionDef, ast.AsyncFor, ast.AsyncWith, ast.Await, ast.Div, ast.MatMult,
                ast.TryStar, ast.Import)
OVER_LISTS = {"any", "all", "min", "max", "sum", "sorted"}


def walk_all():
    for path in FILES:
        for node in ast.walk(ast.parse(path.read_text())):
            yield path.name + ":" + str(getattr(node, "lineno", 0)), node


def names_bound(node):
    """The names that a node gives a meaning, other than as a method or an attribute."""
    if isinstance(node, ast.Name) and isinstance(node.ctx, ast.Store):
        return [node.id]
    if isinstance(node, ast.arg):
        return [node.arg]
    if isinstance(node, ast.ExceptHandler) and node.name:
        return [node.name]
    if isinstance(node, ast.alias):
        return [node.asname or node.name]
    if isinstance(node, ast.Module):
        return [part.name for part in node.body if isinstance(part, (ast.FunctionDef, ast.ClassDef))]
    return []


def docstrings(tree):
    owners = [node for node in ast.walk(tree) if isinstance(node, (ast.Module, ast.ClassDef, ast.FunctionDef))]
    return {id(node.body[0].value) for node in owners if ast.get_docstring(node) is not None}


class Files(unittest.TestCase):

    def test_only_plain_files_are_in_the_package(self):
        self.assertIn(PACKAGE / "__init__.py", FILES)
        for path in PACKAGE.rglob("*"):
            if "__pycache__" not in path.parts:
                self.assertRegex(path.name, r"^[a-z0-9_]+\.py$")

    def test_sizes_and_characters(self):
        for path in FILES:
            text = path.read_bytes().decode("ascii")
            self.assertEqual(set(text) - {"\n"} - {chr(code) for code in range(32, 127)}, set(), path)
            self.assertLessEqual(len(text.splitlines()), 399, path)
            self.assertLessEqual(max(map(len, text.splitlines())), 120, path)

    def test_functions_have_at_most_forty_lines(self):
        for place, node in walk_all():
            if isinstance(node, ast.FunctionDef):
                self.assertLessEqual(node.end_lineno - node.lineno + 1, 40, place)

    def test_strings_have_no_percent_sign_and_no_barred_words(self):
        for path in FILES:
            tree = ast.parse(path.read_text())
            notes = docstrings(tree)
            for node in ast.walk(tree):
                if isinstance(node, ast.Constant) and isinstance(node.value, str):
                    self.assertNotIn("%", node.value, path)
                    if id(node) not in notes:
                        self.assertNotRegex(node.value, BARRED_WORDS)
                        self.assertFalse(node.value.endswith(("._", ".__")), path)
                for name in [getattr(node, "id", ""), getattr(node, "attr", "")] + names_bound(node):
                    self.assertNotRegex(name, BARRED_WORDS)


class Imports(unittest.TestCase):

    def imports_of(self, path):
        return [node for node in ast.parse(path.read_text()).body if isinstance(node, ast.ImportFrom)]

    def test_imports_stand_at_the_top_and_name_what_the_file_itself_defines(self):
        for path in FILES:
            body = ast.parse(path.read_text()).body
            if ast.get_docstring(ast.parse(path.read_text())) is not None:
                body = body[1:]
            kinds = [isinstance(node, ast.ImportFrom) for node in body]
            self.assertEqual(kinds, sorted(kinds, reverse=True), path)
            for node in self.imports_of(path):
                names = {alias.name for alias in node.names}
                self.assertEqual(node.level, 0)
                if node.module in LIBRARY:
                    self.assertLessEqual(names, LIBRARY[node.module])
                    continue
                self.assertTrue(node.module.startswith("quietrows."), path)
                source = PACKAGE / (node.module.split(".")[1] + ".py")
                defined = set()
                for part in ast.parse(source.read_text()).body:
                    if isinstance(part, (ast.FunctionDef, ast.ClassDef)):
                        defined.add(part.name)
                    if isinstance(part, ast.Assign):
                        defined |= {target.id for target in part.targets}
                self.assertLessEqual(names, defined, path)

    def test_no_imports_anywhere_else_and_none_in_a_circle(self):
        count = sum(isinstance(node, ast.ImportFrom) for _, node in walk_all())
        self.assertEqual(count, sum(len(self.imports_of(path)) for path in FILES))
        needs = {path.stem: {node.module.split(".")[-1] for node in self.imports_of(path)
                             if node.module.startswith("quietrows.")} for path in FILES}
        while needs:
            free = [name for name, needed in needs.items() if not needed & set(needs)]
            self.assertTrue(free, needs)
            needs = {name: needed for name, needed in needs.items() if name not in free}

    def test_every_import_is_used(self):
        for path in FILES:
            used = {node.id for node in ast.walk(ast.parse(path.read_text())) if isinstance(node, ast.Name)}
            for node in self.imports_of(path):
                self.assertLessEqual({alias.name for alias in node.names} - {"annotations"}, used, path)


class Code(unittest.TestCase):

    def test_modules_hold_only_definitions_and_plain_values(self):
        for path in FILES:
            tree = ast.parse(path.read_text())
            names = names_bound(tree)
            for node in tree.body:
                if isinstance(node, ast.Assign):
                    self.assertEqual([isinstance(target, ast.Name) for target in node.targets], [True], path)
                    names.append(node.targets[0].id)
                    for part in ast.walk(node.value):
                        self.assertNotIsInstance(part, (ast.Call, ast.ListComp, ast.Lambda), path)
                elif not isinstance(node, (ast.ImportFrom, ast.FunctionDef, ast.ClassDef)):
                    self.assertIn(id(node.value), docstrings(tree), path)
            self.assertEqual(len(names), len(set(names)), path)

    def test_statements_and_expressions(self):
        for place, node in walk_all():
            self.assertNotIsInstance(node, BARRED_NODES, place)
            if isinstance(node, ast.Constant):
                self.assertNotIsInstance(node.value, (float, complex), place)
            if isinstance(node, ast.Compare):
                for sign, other in zip(node.ops, node.comparators):
                    if isinstance(sign, (ast.Is, ast.IsNot)):
                        self.assertTrue(isinstance(other, ast.Constant) and other.value in (None, True, False), place)
            if isinstance(node, ast.ExceptHandler):
                self.assertIsNotNone(node.type, place)
                self.assertNotIn(ast.unparse(node.type), ("Exception", "TypeError", "RuntimeError"), place)
            if isinstance(node, ast.Raise) and node.exc is not None:
                self.assertIsInstance(node.exc, ast.Call, place)

    def test_any_and_its_like_take_lists_because_classes_have_equality(self):
        for place, node in walk_all():
            if isinstance(node, ast.Call) and isinstance(node.func, ast.Name) and node.func.id in OVER_LISTS:
                for argument in node.args:
                    self.assertNotIsInstance(argument, ast.GeneratorExp, place)

    def test_names(self):
        for place, node in walk_all():
            for name in names_bound(node):
                self.assertRegex(name, r"^(_|_?[A-Za-z][A-Za-z0-9_]*)$", place)
                self.assertNotIn(name, dir(builtins), place)
                self.assertNotIn(name, BARRED_NAMES, place)
            if isinstance(node, ast.Name) and node.id in dir(builtins):
                self.assertIn(node.id, BUILTINS, place)
            if isinstance(node, ast.Attribute):
                self.assertNotIn(node.attr, BARRED_NAMES | {"format_map", "args", "__dict__"}, place)

    def test_parameters_and_variables_do_not_hide_classes_and_imports(self):
        for path in FILES:
            tree = ast.parse(path.read_text())
            taken = {node.name for node in tree.body if isinstance(node, (ast.FunctionDef, ast.ClassDef))}
            taken |= {alias.name for node in tree.body if isinstance(node, ast.ImportFrom) for alias in node.names}
            for node in ast.walk(tree):
                if isinstance(node, (ast.Name, ast.arg)):
                    self.assertFalse(set(names_bound(node)) & taken, (path, ast.dump(node)))

    def test_methods_that_are_called(self):
        own = {node.name for _, node in walk_all() if isinstance(node, ast.FunctionDef)}
        for place, node in walk_all():
            if isinstance(node, ast.Call) and isinstance(node.func, ast.Attribute):
                self.assertIn(node.func.attr, own | METHODS, place)

    def test_classes(self):
        for place, node in walk_all():
            if not isinstance(node, ast.ClassDef):
                continue
            self.assertEqual(node.decorator_list, [], place)
            methods = [part.name for part in node.body if isinstance(part, ast.FunctionDef)]
            self.assertEqual(len(methods), len(set(methods)), place)
            for name in methods:
                self.assertTrue(not re.match("__", name) or name in DUNDERS, place)
            stored = {part.attr for part in ast.walk(node)
                      if isinstance(part, ast.Attribute) and isinstance(part.ctx, ast.Store)}
            self.assertFalse(stored & set(methods), place)
