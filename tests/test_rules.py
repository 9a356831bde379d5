"""The package keeps to the language rules, as far as a plain look at its files can tell."""

import ast
import builtins
import pathlib
import re
import unittest
import warnings

import streamsure

PACKAGE = pathlib.Path(streamsure.__file__).parent
# a shell or a doctest leaves the last value there as _
PYTHONS_NAMES = set(dir(builtins)) - {"_"}
LIBRARY = {
    "heapq": {"heappush", "heappop", "heapify", "heapreplace", "heappushpop"},
    "math": {"gcd", "lcm", "isqrt", "comb", "perm", "factorial"},
    "itertools": {"product", "combinations", "permutations", "chain", "accumulate", "pairwise",
                  "islice", "zip_longest"},
    "collections": {"defaultdict"},
}
BUILTINS = set(
    "len range enumerate zip min max sum abs sorted reversed int str bool list tuple dict set "
    "isinstance ord repr any all divmod pow map iter next getattr hasattr setattr Exception "
    "ValueError TypeError KeyError IndexError LookupError ZeroDivisionError ArithmeticError "
    "OverflowError RuntimeError NotImplementedError AttributeError StopIteration "
    "NotImplemented super property staticmethod classmethod".split()
)
METHODS = set(
    "append clear copy count endswith extend find get index insert isalnum isalpha isdigit "
    "islower isspace isupper items join keys ljust lower lstrip partition pop remove replace "
    "reverse rfind rjust rpartition rsplit rstrip setdefault split splitlines startswith strip "
    "update upper values zfill bit_length title capitalize swapcase casefold center expandtabs "
    "removeprefix removesuffix rindex isascii isdecimal isnumeric istitle isidentifier "
    "isprintable translate add discard sort format encode decode".split()
)
DOUBLE_UNDERSCORES = set(
    "__init__ __eq__ __repr__ __str__ __len__ __enter__ __exit__ __call__ __iter__ __lt__ __le__ "
    "__gt__ __ge__ __ne__ __bool__ __contains__ __getitem__ __setitem__".split()
)
BARRED_WORDS = set(
    "type typing typing_extensions enum Enum IntEnum StrEnum Flag IntFlag Generic Protocol ABC "
    "ABCMeta namedtuple NamedTuple TypedDict TYPE_CHECKING abstractmethod".split()
)
BARRED_NAMES = set(
    "register mro elements open input law version_info with_traceback add_note attrgetter "
    "breakpoint builtins compile copyright credits delattr dir eval exec exit gc globals help id "
    "importlib license locals methodcaller os quit vars sys".split()
)
BARRED_NODES = (
    ast.Global, ast.AsyncFunctionDef, ast.AsyncFor, ast.AsyncWith, ast.Await, ast.Import, ast.Div,
    ast.TryStar,
)
ITERATING = {"list", "tuple", "dict", "sorted", "sum", "any", "all", "enumerate", "zip", "min", "max"}
MODIFYING = {"append", "extend", "pop", "clear", "update", "insert", "remove", "setdefault", "add", "discard"}
LONG_LINE, LONG_FUNCTION, LONG_FILE = 120, 40, 399


def files():
    return sorted(path for path in PACKAGE.rglob("*") if "__pycache__" not in path.parts)


def trees():
    return {path: ast.parse(path.read_text(encoding="ascii")) for path in files()}


def bound(node):
    """The names that a function's own statements, or a module's, bind."""
    names = [part.arg for part in ast.walk(node) if isinstance(part, ast.arg)]
    for part in ast.walk(node):
        if isinstance(part, ast.Name) and not isinstance(part.ctx, ast.Load):
            names.append(part.id)
        elif isinstance(part, (ast.FunctionDef, ast.ClassDef)) and part is not node:
            names.append(part.name)
        elif isinstance(part, ast.ExceptHandler) and part.name:
            names.append(part.name)
    return names


def top_names(tree):
    names = []
    for node in tree.body:
        if isinstance(node, (ast.FunctionDef, ast.ClassDef)):
            names.append(node.name)
        elif isinstance(node, ast.Assign):
            names += [target.id for target in node.targets]
        elif isinstance(node, ast.ImportFrom):
            names += [part.asname or part.name for part in node.names]
    return names


def docstrings(tree):
    found = []
    for node in ast.walk(tree):
        if isinstance(node, (ast.Module, ast.ClassDef, ast.FunctionDef)) and node.body:
            first = node.body[0]
            if isinstance(first, ast.Expr) and isinstance(first.value, ast.Constant):
                found.append(first.value)
    return found


def called_name(node):
    """The bare name of a function or a method that is called, None for anything else."""
    if not isinstance(node, ast.Call):
        return None
    return node.func.id if isinstance(node.func, ast.Name) else getattr(node.func, "attr", None)


def calls_and_parents(tree):
    found = []
    for above in ast.walk(tree):
        for node in ast.iter_child_nodes(above):
            if isinstance(node, ast.Call):
                found.append((node, above))
    return found


def modified(loop):
    """The names of lists and dicts that the rows of a loop change."""
    names = set()
    for node in [part for row in loop.body for part in ast.walk(row)]:
        changed = []
        if called_name(node) in MODIFYING and isinstance(node.func, ast.Attribute):
            changed = [node.func.value]
        elif isinstance(node, (ast.Assign, ast.Delete)):
            changed = [part.value for part in node.targets if isinstance(part, ast.Subscript)]
        elif isinstance(node, ast.AugAssign):
            changed = [getattr(node.target, "value", node.target)]
        names |= {part.id for part in changed if isinstance(part, ast.Name)}
    return names


class FilesTest(unittest.TestCase):
    def test_plain_files_alone(self):
        for path in files():
            self.assertTrue(path.is_file() and path.suffix == ".py", path)
            self.assertRegex(path.stem, r"^([a-z][a-z0-9_]*|__init__|__main__)$")

    def test_sizes_and_signs(self):
        for path in files():
            text = path.read_text(encoding="ascii")
            self.assertTrue(all(sign == "\n" or " " <= sign <= "~" for sign in text), path)
            lines = text.split("\n")
            self.assertLessEqual(len(lines), LONG_FILE, path)
            self.assertLessEqual(max(len(line) for line in lines), LONG_LINE, path)

    def test_python_gives_no_warning(self):
        for path in files():
            with warnings.catch_warnings():
                warnings.simplefilter("error")
                compile(path.read_text(encoding="ascii"), str(path), "exec")

    def test_functions_are_short_and_those_of_modules_without_decorators(self):
        for path, tree in trees().items():
            for node in ast.walk(tree):
                if isinstance(node, ast.FunctionDef):
                    self.assertLessEqual(node.end_lineno - node.lineno + 1, LONG_FUNCTION, node.name)
            for node in tree.body:
                if isinstance(node, (ast.FunctionDef, ast.ClassDef)):
                    self.assertEqual(node.decorator_list, [], (path, node.name))


class ImportsTest(unittest.TestCase):
    def test_names_come_from_the_files_that_define_them(self):
        tops = {path.stem: tree for path, tree in trees().items()}
        for path, tree in trees().items():
            for node in ast.walk(tree):
                if not isinstance(node, ast.ImportFrom):
                    continue
                self.assertIn(node, tree.body)
                self.assertEqual(node.level, 0)
                self.assertTrue(all(part.asname is None for part in node.names))
                names = {part.name for part in node.names}
                if node.module in LIBRARY:
                    self.assertLessEqual(names, LIBRARY[node.module])
                    continue
                package, _, name = node.module.partition(".")
                self.assertEqual(package, "streamsure", path)
                own = [n for n in tops[name].body if not isinstance(n, ast.ImportFrom)]
                self.assertLessEqual(names, set(top_names(ast.Module(own, []))), path)

    def test_no_two_files_import_from_each_other(self):
        ahead = {
            path.stem: {
                node.module.partition(".")[2] for node in tree.body
                if isinstance(node, ast.ImportFrom) and node.module.startswith("streamsure.")
            }
            for path, tree in trees().items()
        }
        while ahead:
            free = [name for name, needs in ahead.items() if not needs & set(ahead)]
            self.assertNotEqual(free, [], ahead)
            for name in free:
                del ahead[name]

    def test_each_imported_name_is_used(self):
        for path, tree in trees().items():
            used = {node.id for node in ast.walk(tree) if isinstance(node, ast.Name)}
            for node in tree.body:
                if isinstance(node, ast.ImportFrom):
                    self.assertLessEqual({part.name for part in node.names}, used, path)


class NamesTest(unittest.TestCase):
    def test_module_level_holds_plain_statements_and_binds_once(self):
        allowed = (ast.FunctionDef, ast.ClassDef, ast.Assign, ast.ImportFrom)
        for path, tree in trees().items():
            docs = docstrings(tree)
            for node in tree.body:
                is_doc = isinstance(node, ast.Expr) and node.value in docs
                self.assertTrue(is_doc or isinstance(node, allowed), (path, node.lineno))
                if isinstance(node, ast.Assign):
                    self.assertEqual(len(node.targets), 1)
                    self.assertIsInstance(node.targets[0], ast.Name)
            names = top_names(tree)
            self.assertEqual(len(set(names)), len(names), path)

    def test_no_name_hides_another_one(self):
        for path, tree in trees().items():
            barred = set(PYTHONS_NAMES)
            for node in tree.body:
                if isinstance(node, ast.ClassDef):
                    barred.add(node.name)
                elif isinstance(node, ast.ImportFrom):
                    barred |= {part.name for part in node.names}
            for node in ast.walk(tree):
                if isinstance(node, (ast.FunctionDef, ast.Lambda)):
                    self.assertEqual(set(bound(node)) & barred, set(), path)
            self.assertEqual(set(top_names(tree)) & PYTHONS_NAMES, set(), path)

    def test_names_are_plain(self):
        for path, tree in trees().items():
            names = bound(tree) + [n.attr for n in ast.walk(tree) if isinstance(n, ast.Attribute)]
            for name in names:
                if name != "_" and name not in DOUBLE_UNDERSCORES:
                    self.assertRegex(name, r"^_?[A-Za-z][A-Za-z0-9_]*$", path)
                self.assertNotIn(name, BARRED_NAMES, path)

    def test_only_listed_builtins_are_used(self):
        for path, tree in trees().items():
            for node in ast.walk(tree):
                if isinstance(node, ast.Name) and node.id in PYTHONS_NAMES:
                    self.assertIn(node.id, BUILTINS, (path, node.lineno))

    def test_only_listed_and_own_methods_are_called(self):
        own = set()
        for tree in trees().values():
            for node in ast.walk(tree):
                if isinstance(node, ast.ClassDef):
                    own |= {part.name for part in node.body if isinstance(part, ast.FunctionDef)}
        for path, tree in trees().items():
            for node in ast.walk(tree):
                if isinstance(node, ast.Call) and isinstance(node.func, ast.Attribute):
                    self.assertIn(node.func.attr, METHODS | own, (path, node.lineno))

    def test_each_attribute_that_is_read_is_assigned_somewhere(self):
        assigned, methods = set(), set()
        for tree in trees().values():
            for node in ast.walk(tree):
                if isinstance(node, ast.Attribute) and isinstance(node.ctx, ast.Store):
                    assigned.add(node.attr)
                elif isinstance(node, ast.FunctionDef):
                    methods.add(node.name)
        for path, tree in trees().items():
            for node in ast.walk(tree):
                if isinstance(node, ast.Attribute) and isinstance(node.ctx, ast.Load):
                    self.assertIn(node.attr, assigned | methods | METHODS, (path, node.lineno))


class IteratedTest(unittest.TestCase):
    def test_views_zips_and_ranges_are_iterated_on_the_spot(self):
        names = {"zip", "enumerate", "reversed", "range", "items", "keys", "values", "map"}
        for path, tree in trees().items():
            for node, above in calls_and_parents(tree):
                if called_name(node) in names:
                    is_head = isinstance(above, (ast.For, ast.comprehension)) and above.iter is node
                    is_taken = isinstance(above, ast.Call) and called_name(above) in ITERATING
                    self.assertTrue(is_head or is_taken, (path, node.lineno))

    def test_sets_are_not_kept_but_in_a_variable(self):
        for path, tree in trees().items():
            for node, above in calls_and_parents(tree):
                if called_name(node) == "set":
                    is_taken = isinstance(above, ast.Call) and called_name(above) in ("sorted", "len")
                    self.assertTrue(is_taken or isinstance(above, (ast.Compare, ast.Assign)), (path, node.lineno))

    def test_what_a_loop_goes_over_is_not_modified_in_it(self):
        for path, tree in trees().items():
            for loop in ast.walk(tree):
                if isinstance(loop, ast.For) and called_name(loop.iter) != "list":
                    heads = {part.id for part in ast.walk(loop.iter) if isinstance(part, ast.Name)}
                    self.assertEqual(heads & modified(loop), set(), (path, loop.lineno))


class CodeTest(unittest.TestCase):
    def test_barred_statements(self):
        for path, tree in trees().items():
            for node in ast.walk(tree):
                self.assertNotIsInstance(node, BARRED_NODES, path)
                if isinstance(node, ast.Constant):
                    self.assertNotIsInstance(node.value, float, path)

    def test_is_stands_beside_none_true_and_false(self):
        for path, tree in trees().items():
            for node in ast.walk(tree):
                if isinstance(node, ast.Compare):
                    for sign, right in zip(node.ops, node.comparators):
                        if isinstance(sign, (ast.Is, ast.IsNot)):
                            self.assertIsInstance(right, ast.Constant, (path, node.lineno))

    def test_barred_words(self):
        for path, tree in trees().items():
            docs = docstrings(tree)
            for node in ast.walk(tree):
                words = []
                if isinstance(node, ast.Constant) and isinstance(node.value, str):
                    words = [] if node in docs else re.findall(r"\w+", node.value)
                    self.assertNotIn("%", node.value, path)
                elif isinstance(node, ast.Name):
                    words = [node.id]
                elif isinstance(node, ast.Attribute):
                    words = [node.attr]
                self.assertEqual(set(words) & BARRED_WORDS, set(), (path, words))

    def test_errors_are_made_where_they_are_raised_and_caught_by_name(self):
        for path, tree in trees().items():
            for node in ast.walk(tree):
                if isinstance(node, ast.Raise) and node.exc is not None:
                    self.assertIsInstance(node.exc, ast.Call, (path, node.lineno))
                    self.assertIsInstance(node.exc.func, ast.Name, (path, node.lineno))
                if isinstance(node, ast.ExceptHandler):
                    self.assertIsNotNone(node.type, (path, node.lineno))


if __name__ == "__main__":
    unittest.main()
