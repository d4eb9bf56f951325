"""The rules of ../shared/LANGUAGE.md that can be read off the package's files.

Not all of them: what is checked here is what is broken most easily.
"""

import ast
import builtins
import os
import re
import unittest
import warnings

ROOT = os.path.dirname(os.path.dirname(os.path.abspath(__file__)))
PACKAGE = os.path.join(ROOT, "stubcords")

CALLED = set("""len range enumerate zip min max sum abs sorted reversed int str bool bytes list tuple
dict set frozenset isinstance ord repr any all divmod pow getattr hasattr setattr iter next map super
property staticmethod classmethod Exception ValueError TypeError KeyError IndexError LookupError
ZeroDivisionError ArithmeticError OverflowError RuntimeError NotImplementedError AttributeError
StopIteration NotImplemented""".split())

METHODS = set("""append clear copy count endswith extend find get index insert isalnum isalpha isdigit
islower isspace isupper items join keys ljust lower lstrip partition pop remove replace reverse rfind
rjust rpartition rsplit rstrip setdefault split splitlines startswith strip update upper values zfill
bit_length title capitalize swapcase casefold center expandtabs removeprefix removesuffix rindex
isascii isdecimal isnumeric istitle isidentifier isprintable add discard sort""".split())

LIBRARY = {
    "heapq": {"heappush", "heappop", "heapify", "heapreplace", "heappushpop"},
    "math": {"gcd", "lcm", "isqrt", "comb", "perm", "factorial"},
    "itertools": {"product", "combinations", "permutations", "chain", "accumulate", "pairwise",
                  "islice", "zip_longest"},
    "collections": {"defaultdict"},
}

BARRED_NAMES = set("""register mro elements open input law version_info with_traceback add_note
attrgetter breakpoint builtins compile copyright credits delattr dir eval exec exit gc globals help id
importlib license locals methodcaller os quit type vars sys""".split())

BARRED_WORDS = re.compile(r"\b(type|typing|typing_extensions|enum|Enum|IntEnum|StrEnum|Flag|IntFlag|"
                          r"Generic|Protocol|ABC|ABCMeta|namedtuple|NamedTuple|TypedDict|"
                          r"TYPE_CHECKING|abstractmethod)\b|dataclass|overload|contextmanager")

DOUBLE = set("""__init__ __eq__ __repr__ __str__ __len__ __ne__ __lt__ __le__ __gt__ __ge__
__iter__ __contains__ __bool__ __call__ __enter__ __exit__""".split())


def files():
    for name in sorted(os.listdir(PACKAGE)):
        if name.endswith(".py"):
            with open(os.path.join(PACKAGE, name), encoding="utf-8") as opened:
                yield name, opened.read()


def trees():
    for name, text in files():
        yield name, ast.parse(text)


def nodes(*kinds):
    for name, tree in trees():
        for node in ast.walk(tree):
            if isinstance(node, kinds):
                yield f"{name}:{getattr(node, 'lineno', 0)}", node


def own_methods():
    found = set()
    for _, node in nodes(ast.ClassDef):
        found.update(part.name for part in node.body if isinstance(part, ast.FunctionDef))
    return found


def docstrings(tree):
    """The nodes that are docstrings."""
    found = set()
    for node in ast.walk(tree):
        if isinstance(node, (ast.Module, ast.ClassDef, ast.FunctionDef)):
            first = node.body[0] if node.body else None
            if isinstance(first, ast.Expr) and isinstance(first.value, ast.Constant):
                found.add(first.value)
    return found


class Files(unittest.TestCase):
    def test_the_folder_holds_only_python_files(self):
        for name in os.listdir(PACKAGE):
            if name != "__pycache__":
                self.assertRegex(name, r"^(__init__|__main__|[a-z][a-z0-9_]*)\.py$")
                self.assertNotRegex(name, r"^(law_|test)|^(tests|testing|site|conftest|heapq|math|"
                                          r"itertools|sitecustomize|usercustomize)\.py$")
                self.assertFalse(name[0] != "_" and hasattr(builtins, name[:-3]), name)
        self.assertIn("__init__.py", os.listdir(PACKAGE))

    def test_sizes_and_characters(self):
        for name, text in files():
            lines = text.split("\n")
            self.assertLessEqual(len(lines) - 1, 399, name)
            self.assertLessEqual(max(map(len, lines)), 120, name)
            self.assertRegex(text, r"\A[ -~\n]*\Z", name)
        for place, node in nodes(ast.FunctionDef):
            self.assertLessEqual(node.end_lineno - node.lineno + 1, 40, place)

    def test_python_gives_no_warning(self):
        for name, text in files():
            with warnings.catch_warnings():
                warnings.simplefilter("error")
                compile(text, name, "exec")

    def test_module_level(self):
        for name, tree in trees():
            for node in tree.body:
                self.assertIsInstance(node, (ast.Expr, ast.ImportFrom, ast.FunctionDef,
                                             ast.ClassDef, ast.Assign), name)
                if isinstance(node, ast.Expr):
                    self.assertIsInstance(node.value, ast.Constant, name)

    def test_barred_words(self):
        for name, tree in trees():
            told = docstrings(tree)
            for node in ast.walk(tree):
                if isinstance(node, ast.Constant) and isinstance(node.value, str) and node not in told:
                    self.assertNotRegex(node.value, BARRED_WORDS, name)
                    self.assertNotIn("__", node.value, name)
        for name, text in files():
            self.assertNotRegex(text, r"_wall\b|_WallAttr", name)


class Imports(unittest.TestCase):
    def test_forms(self):
        for place, node in nodes(ast.Import, ast.ImportFrom):
            self.assertIsInstance(node, ast.ImportFrom, place)
            self.assertEqual(node.level, 0, place)
            names = {alias.name for alias in node.names}
            if node.module.startswith("stubcords."):
                self.assertNotIn("*", names, place)
                file = node.module.split(".")[1] + ".py"
                defined = dict(trees())[file].body
                here = {part.name for part in defined if hasattr(part, "name")}
                for part in defined:
                    if isinstance(part, ast.Assign):
                        here.add(part.targets[0].id)
                self.assertLessEqual(names, here, place)
            else:
                self.assertLessEqual(names, LIBRARY[node.module], place)

    def test_names_of_the_library_are_only_called(self):
        for name, tree in trees():
            known = {alias.name for node in tree.body if isinstance(node, ast.ImportFrom)
                     and node.module in LIBRARY for alias in node.names}
            calls = [node for part in tree.body if isinstance(part, (ast.FunctionDef, ast.ClassDef))
                     for node in ast.walk(part) if isinstance(node, ast.Call)
                     and isinstance(node.func, ast.Name) and node.func.id in known]
            uses = [node for node in ast.walk(tree) if isinstance(node, ast.Name) and node.id in known]
            self.assertEqual(len(calls), len(uses), name)
            for node in calls:
                self.assertEqual(node.keywords, [], name)

    def test_products_are_iterated_at_once(self):
        for name, tree in trees():
            loops = [node.iter for node in ast.walk(tree) if isinstance(node, (ast.For, ast.comprehension))]
            for node in ast.walk(tree):
                if (isinstance(node, ast.Call) and isinstance(node.func, ast.Name)
                        and node.func.id in ("product", "combinations", "permutations")):
                    self.assertIn(node, loops, name)

    def test_no_circles(self):
        ahead = {}
        for name, tree in trees():
            ahead[name] = {node.module.split(".")[1] + ".py" for node in ast.walk(tree)
                           if isinstance(node, ast.ImportFrom) and node.module.startswith("stubcords")}
        while ahead:
            free = [name for name, needs in ahead.items() if not needs & set(ahead)]
            self.assertTrue(free, ahead)
            for name in free:
                del ahead[name]


class Statements(unittest.TestCase):
    def test_sets_stand_in_sorted_or_len_alone(self):
        for name, tree in trees():
            inside = [part for node in ast.walk(tree) if isinstance(node, ast.Call)
                      and isinstance(node.func, ast.Name) and node.func.id in ("sorted", "len")
                      and not node.keywords for part in node.args]
            for node in ast.walk(tree):
                is_set = isinstance(node, (ast.Set, ast.SetComp)) or (
                    isinstance(node, ast.Call) and isinstance(node.func, ast.Name)
                    and node.func.id in ("set", "frozenset"))
                if is_set:
                    self.assertIn(node, inside, name)

    def test_kinds_that_are_not_used(self):
        barred = (ast.Global, ast.AsyncFunctionDef, ast.AsyncFor, ast.AsyncWith, ast.Await, ast.Div,
                  ast.MatMult)
        for place, node in nodes(*barred):
            self.fail(f"{place}: {node}")

    def test_no_floats_and_no_percent_signs(self):
        for place, node in nodes(ast.Constant):
            self.assertIsInstance(node.value, (int, str, bytes, bool, type(None)), place)
            if isinstance(node.value, str):
                self.assertNotIn("%", node.value, place)

    def test_is_stands_beside_none_and_truths(self):
        for place, node in nodes(ast.Compare):
            if any(isinstance(sign, (ast.Is, ast.IsNot)) for sign in node.ops):
                sides = [node.left] + node.comparators
                self.assertTrue(any(isinstance(side, ast.Constant) and side.value in (None, True, False)
                                    or isinstance(side, ast.Name) and side.id == "self"
                                    for side in sides), place)

    def test_generator_expressions_are_lists(self):
        # Keepers are compared and have a length: then any, all and the like take lists.
        for place, node in nodes(ast.GeneratorExp):
            self.fail(place)

    def test_builtins(self):
        for place, node in nodes(ast.Name):
            if hasattr(builtins, node.id):
                self.assertIn(node.id, CALLED, place)
                self.assertIsInstance(node.ctx, ast.Load, place)

    def test_names(self):
        for place, node in nodes(ast.Name, ast.arg, ast.FunctionDef, ast.ClassDef):
            name = getattr(node, "id", None) or getattr(node, "arg", None) or node.name
            if name not in DOUBLE:
                self.assertRegex(name, r"^(_|_?[A-Za-z][A-Za-z0-9_]*)$", place)
                self.assertNotIn(name, BARRED_NAMES, place)
            else:
                self.assertIsInstance(node, ast.FunctionDef, place)
            if isinstance(node, ast.arg):
                self.assertFalse(hasattr(builtins, name), place)

    def test_no_local_name_is_that_of_an_import_or_class(self):
        for name, tree in trees():
            known = {alias.asname or alias.name for node in ast.walk(tree)
                     if isinstance(node, ast.ImportFrom) for alias in node.names}
            known |= {node.name for node in ast.walk(tree) if isinstance(node, ast.ClassDef)}
            for node in ast.walk(tree):
                if isinstance(node, ast.Name) and isinstance(node.ctx, ast.Store):
                    self.assertNotIn(node.id, known, name)
                if isinstance(node, ast.arg):
                    self.assertNotIn(node.arg, known, name)

    def test_methods(self):
        known = METHODS | own_methods()
        for place, node in nodes(ast.Call):
            if isinstance(node.func, ast.Attribute):
                self.assertIn(node.func.attr, known, place)

    def test_a_table_of_functions_is_read_by_a_name_of_its_own(self):
        for place, node in nodes(ast.Call):
            self.assertIsInstance(node.func, (ast.Name, ast.Attribute), place)

    def test_tables_at_module_level_hold_no_lists_and_no_dicts(self):
        for name, tree in trees():
            for node in tree.body:
                if isinstance(node, ast.Assign):
                    self.assertEqual(len(node.targets), 1, name)
                    inside = [part for part in ast.walk(node.value) if part is not node.value]
                    for part in inside:
                        self.assertNotIsInstance(part, (ast.List, ast.Dict, ast.Set, ast.Call), name)

    def test_no_decorators_but_those_over_methods(self):
        for place, node in nodes(ast.ClassDef):
            self.assertEqual(node.decorator_list, [], place)
        for name, tree in trees():
            for node in tree.body:
                if isinstance(node, ast.FunctionDef):
                    self.assertEqual(node.decorator_list, [], name)


class Classes(unittest.TestCase):
    def rows(self):
        """Each class that is no error class, with its place and its methods by their names."""
        for place, node in nodes(ast.ClassDef):
            if not node.bases:
                yield place, node, {part.name: part for part in node.body
                                    if isinstance(part, ast.FunctionDef)}

    def assigned(self, tree):
        return {node.attr for node in ast.walk(tree)
                if isinstance(node, ast.Attribute) and isinstance(node.ctx, ast.Store)}

    def test_only_methods_each_once_without_decorators(self):
        for place, node, methods in self.rows():
            parts = [part for part in node.body if not isinstance(part, ast.Expr)]
            self.assertEqual(len(parts), len(methods), place)
            for name, method in methods.items():
                self.assertEqual(method.decorator_list, [], place)
                self.assertTrue(not name.startswith("__") or name in DOUBLE, place)
                self.assertFalse(any(hasattr(kind, name) for kind in (str, int, list, dict, set, bytes))
                                 and name not in DOUBLE, place)

    def test_no_name_is_a_method_and_an_attribute(self):
        for place, node, methods in self.rows():
            for name in self.assigned(node):
                self.assertNotIn(name, methods, place)
                self.assertFalse(any(hasattr(kind, name) for kind in (str, int, list, dict, set, bytes)), place)

    def test_attributes_that_are_read_are_assigned(self):
        known = set().union(*[self.assigned(tree) for name, tree in trees()])
        for name, tree in trees():
            called = {id(node.func) for node in ast.walk(tree) if isinstance(node, ast.Call)}
            for node in ast.walk(tree):
                if isinstance(node, ast.Attribute) and isinstance(node.ctx, ast.Load) and id(node) not in called:
                    self.assertIn(node.attr, known, name)

    def test_attributes_are_assigned_through_local_names(self):
        for name, tree in trees():
            at_the_top = {part.name for part in tree.body if hasattr(part, "name")}
            for node in ast.walk(tree):
                if isinstance(node, ast.Attribute) and isinstance(node.ctx, ast.Store):
                    self.assertIsInstance(node.value, ast.Name, name)
                    self.assertNotIn(node.value.id, at_the_top, name)

    def test_forms_of_len_eq_and_repr(self):
        for place, node, methods in self.rows():
            for name in {"__len__", "__eq__", "__repr__"} & set(methods):
                rows = methods[name].body
                self.assertIsInstance(rows[-1], ast.Return, place)
                self.assertEqual(len(rows), 1, place)
                told = rows[0].value
                if name == "__len__":
                    self.assertEqual(told.func.id, "len", place)
                elif name == "__repr__":
                    self.assertIsInstance(told, ast.JoinedStr, place)
                else:
                    self.assertEqual(ast.unparse(told.values[0]), f"isinstance(other, {node.name})", place)

    def test_errors_are_made_where_they_are_raised(self):
        known = {node.name for _, node in nodes(ast.ClassDef)}
        for place, node in nodes(ast.Raise):
            self.assertIsInstance(node.exc, ast.Call, place)
            self.assertIn(node.exc.func.id, known, place)
            self.assertEqual(node.exc.keywords, [], place)


if __name__ == "__main__":
    unittest.main()
