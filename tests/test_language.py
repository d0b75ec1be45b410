"""The package keeps to the language of ../shared/LANGUAGE.md, as far as a program can see it.

The checks are stricter than the rules where the package needs less than they allow.
"""

import ast
import builtins
import os
import re
import unittest

FOLDER = os.path.join(os.path.dirname(os.path.dirname(os.path.abspath(__file__))), "reactivesynth")

BUILTINS = set("""len range enumerate zip min max sum abs sorted reversed int str bool list tuple dict set isinstance
ord repr any all divmod super iter ValueError property staticmethod classmethod""".split())
DOUBLE_UNDERSCORE = set("""__init__ __eq__ __repr__ __str__ __len__ __enter__ __exit__ __call__ __iter__""".split())
METHODS = set("""append clear copy count endswith extend find get index insert isalnum isalpha isdigit islower isspace
isupper items join keys ljust lower lstrip partition pop remove replace reverse rfind rjust rpartition rsplit rstrip
setdefault split splitlines startswith strip update upper values zfill bit_length""".split())
LIBRARY = {"heapq": {"heappush", "heappop", "heapify", "heapreplace", "heappushpop"},
           "math": {"gcd", "lcm", "isqrt", "comb", "perm", "factorial"},
           "itertools": {"product", "combinations", "permutations"}}
NODES = (ast.Module, ast.Expr, ast.Constant, ast.ImportFrom, ast.alias, ast.FunctionDef, ast.ClassDef, ast.arguments,
         ast.arg, ast.Assign, ast.AugAssign, ast.If, ast.While, ast.For, ast.Return, ast.Break, ast.Continue, ast.Pass,
         ast.Raise, ast.Try, ast.ExceptHandler, ast.Name, ast.Attribute, ast.Subscript, ast.Slice, ast.Call, ast.keyword, ast.Tuple, ast.List,
         ast.Dict, ast.ListComp, ast.DictComp, ast.comprehension, ast.BinOp, ast.UnaryOp, ast.BoolOp, ast.Compare,
         ast.IfExp, ast.Lambda, ast.JoinedStr, ast.FormattedValue, ast.Load, ast.Store,
         ast.Add, ast.Sub, ast.Mult, ast.FloorDiv, ast.Mod, ast.LShift, ast.RShift, ast.BitAnd, ast.BitOr, ast.BitXor,
         ast.Invert, ast.Not, ast.USub, ast.And, ast.Or, ast.Eq, ast.NotEq, ast.Lt, ast.LtE, ast.Gt, ast.GtE, ast.Is,
         ast.IsNot, ast.In, ast.NotIn)
BARRED = set("""register mro elements open input law version_info with_traceback add_note attrgetter breakpoint builtins
compile copyright credits delattr dir eval exec exit gc globals help id importlib license locals methodcaller os quit
type vars sys typing typing_extensions enum Enum IntEnum StrEnum Flag IntFlag Generic Protocol ABC ABCMeta namedtuple
NamedTuple TypedDict TYPE_CHECKING abstractmethod""".split())
AT_ONCE = {"list", "tuple", "dict", "sorted", "sum", "any", "all", "enumerate", "zip", "min", "max"}


def package_files():
    return sorted(name for name in os.listdir(FOLDER) if name != "__pycache__")


def read(name):
    with open(os.path.join(FOLDER, name), encoding="utf-8", newline="") as file:
        return file.read()


def trees():
    return [(name, ast.parse(read(name))) for name in package_files()]


def is_call_of(node, names):
    return isinstance(node, ast.Call) and isinstance(node.func, ast.Name) and node.func.id in names


def bound_names(tree):
    """Return all names that a file gives to something, with their lines."""
    found = []
    for node in ast.walk(tree):
        if isinstance(node, (ast.FunctionDef, ast.ClassDef)):
            found.append((node.name, node.lineno))
        elif isinstance(node, ast.arg):
            found.append((node.arg, node.lineno))
        elif isinstance(node, ast.Name) and isinstance(node.ctx, ast.Store):
            found.append((node.id, node.lineno))
        elif isinstance(node, ast.alias):
            found.append((node.name, node.lineno))
    return found


class FileTest(unittest.TestCase):
    def test_names_of_files(self):
        for name in package_files():
            self.assertRegex(name, r"^(__init__|[a-z][a-z0-9_]*)\.py$")

    def test_characters_and_lengths(self):
        for name in package_files():
            lines = read(name).split("\n")
            self.assertLessEqual(len(lines), 399, name)
            for number, line in enumerate(lines, 1):
                self.assertRegex(line, r"^[ -~]*$", f"{name}:{number}")
                self.assertLessEqual(len(line), 120, f"{name}:{number}")

    def test_nothing_is_returned_within_a_constructor(self):
        for name, tree in trees():
            for node in ast.walk(tree):
                if isinstance(node, ast.FunctionDef) and node.name == "__init__":
                    for inner in ast.walk(node):
                        self.assertNotIsInstance(inner, (ast.Return, ast.Lambda), f"{name}:{node.lineno}")

    def test_lengths_of_functions(self):
        for name, tree in trees():
            for node in ast.walk(tree):
                if isinstance(node, ast.FunctionDef):
                    self.assertLessEqual(node.end_lineno - node.lineno + 1, 40, f"{name}: {node.name}")

    def test_docstrings(self):
        for name, tree in trees():
            self.assertIsNotNone(ast.get_docstring(tree), name)


class SyntaxTest(unittest.TestCase):
    def test_parts_of_the_language(self):
        for name, tree in trees():
            for node in ast.walk(tree):
                self.assertIsInstance(node, NODES, f"{name}:{getattr(node, 'lineno', 0)}")
                if isinstance(node, ast.Constant):
                    self.assertIsInstance(node.value, (int, str, type(None)), f"{name}:{node.lineno}")
                if isinstance(node, ast.ClassDef):
                    self.assertEqual(node.decorator_list, [], f"{name}: {node.name}")
                if isinstance(node, ast.FunctionDef):
                    for decorator in node.decorator_list:
                        self.assertRegex(ast.unparse(decorator), r"^(property|staticmethod|classmethod|\w+\.setter)$")

    def test_strings(self):
        for name, tree in trees():
            for node in ast.walk(tree):
                if isinstance(node, ast.Constant) and isinstance(node.value, str):
                    self.assertNotIn("%", node.value, f"{name}:{node.lineno}")
            self.assertEqual(re.findall(r"\\[^nt\\'\"]", read(name)), [], name)

    def test_module_level(self):
        for name, tree in trees():
            seen = []
            for at, node in enumerate(tree.body):
                plain = isinstance(node, (ast.ImportFrom, ast.FunctionDef, ast.ClassDef, ast.Assign))
                self.assertTrue(plain or (at == 0 and isinstance(node, ast.Expr)), f"{name}:{node.lineno}")
                if isinstance(node, ast.Assign):
                    self.assertEqual(len(node.targets), 1)
                    ast.literal_eval(node.value)
                    seen.append(node.targets[0].id)
                elif isinstance(node, ast.ImportFrom):
                    seen.extend(alias.name for alias in node.names)
                elif not isinstance(node, ast.Expr):
                    seen.append(node.name)
            self.assertEqual(len(seen), len(set(seen)), name)

    def test_annotations_and_stars(self):
        for name, tree in trees():
            for node in ast.walk(tree):
                if isinstance(node, ast.FunctionDef):
                    self.assertIsNone(node.returns)
                    self.assertIsNone(node.args.vararg)
                    self.assertIsNone(node.args.kwarg)
                if isinstance(node, ast.arg):
                    self.assertIsNone(node.annotation)

    def test_identity(self):
        for name, tree in trees():
            for node in ast.walk(tree):
                if isinstance(node, ast.Compare) and isinstance(node.ops[0], (ast.Is, ast.IsNot)):
                    self.assertIsInstance(node.comparators[0], ast.Constant, f"{name}:{node.lineno}")


class NameTest(unittest.TestCase):
    def test_imports(self):
        homes = {name[:-3]: [node.name if not isinstance(node, ast.Assign) else node.targets[0].id
                             for node in tree.body if isinstance(node, (ast.FunctionDef, ast.ClassDef, ast.Assign))]
                 for name, tree in trees()}
        edges = {name[:-3]: [] for name, _ in trees()}
        for name, tree in trees():
            for node in ast.walk(tree):
                if isinstance(node, ast.ImportFrom):
                    self.assertEqual(node.level, 0)
                    self.assertIn(node, tree.body)
                    if node.module in LIBRARY:
                        self.assertLessEqual({alias.name for alias in node.names}, LIBRARY[node.module])
                        continue
                    package, _, module = node.module.partition(".")
                    self.assertEqual(package, "reactivesynth")
                    edges[name[:-3]].append(module)
                    for alias in node.names:
                        self.assertIsNone(alias.asname)
                        self.assertIn(alias.name, homes[module], f"{name}:{node.lineno}")
        # Modules are taken away as long as one imports nothing that is left.
        left = dict(edges)
        while left:
            free = [name for name in left if not any(module in left for module in left[name])]
            self.assertTrue(free, f"imports in a circle: {sorted(left)}")
            left = {name: left[name] for name in left if name not in free}

    def test_every_import_is_used(self):
        for name, tree in trees():
            used = {node.id for node in ast.walk(tree) if isinstance(node, ast.Name)}
            for node in tree.body:
                if isinstance(node, ast.ImportFrom):
                    self.assertLessEqual({alias.name for alias in node.names}, used, name)

    def test_no_name_is_barred_or_a_builtin(self):
        for name, tree in trees():
            for bound, line in bound_names(tree):
                self.assertNotIn(bound, dir(builtins), f"{name}:{line}")
                self.assertNotIn(bound, BARRED, f"{name}:{line}")
                self.assertTrue(not bound.startswith("__") or bound in DOUBLE_UNDERSCORE, f"{name}:{line}")
            for node in ast.walk(tree):
                if isinstance(node, ast.Attribute):
                    self.assertNotIn(node.attr, BARRED, f"{name}:{node.lineno}")

    def test_no_local_name_is_an_import_or_a_class(self):
        for name, tree in trees():
            taken = {node.name for node in tree.body if isinstance(node, (ast.ClassDef, ast.FunctionDef))}
            for node in tree.body:
                if isinstance(node, ast.ImportFrom):
                    taken |= {alias.name for alias in node.names}
            for node in ast.walk(tree):
                if isinstance(node, ast.arg):
                    self.assertNotIn(node.arg, taken, f"{name}:{node.lineno}")
                if isinstance(node, ast.Name) and isinstance(node.ctx, ast.Store):
                    self.assertNotIn(node.id, taken, f"{name}:{node.lineno}")

    def test_builtins_and_methods(self):
        own = {node.name for _, tree in trees() for node in ast.walk(tree) if isinstance(node, ast.FunctionDef)}
        for name, tree in trees():
            bound = {word for word, _ in bound_names(tree)}
            for node in ast.walk(tree):
                if isinstance(node, ast.Name) and isinstance(node.ctx, ast.Load) and node.id not in bound:
                    self.assertIn(node.id, BUILTINS, f"{name}:{node.lineno}")
                if isinstance(node, ast.Call) and isinstance(node.func, ast.Attribute):
                    self.assertIn(node.func.attr, METHODS | own, f"{name}:{node.lineno}")


class UseTest(unittest.TestCase):
    def test_sets_are_sorted_or_counted_on_the_spot(self):
        for name, tree in trees():
            allowed = [node.args[0] for node in ast.walk(tree) if is_call_of(node, {"sorted", "len"}) and node.args]
            for node in ast.walk(tree):
                if is_call_of(node, {"set"}):
                    self.assertIn(node, allowed, f"{name}:{node.lineno}")

    def test_views_are_iterated_at_once(self):
        for name, tree in trees():
            allowed = []
            for node in ast.walk(tree):
                if isinstance(node, (ast.For, ast.comprehension)):
                    allowed.append(node.iter)
                if is_call_of(node, AT_ONCE):
                    allowed.extend(node.args)
            for node in ast.walk(tree):
                view = isinstance(node, ast.Call) and isinstance(node.func, ast.Attribute) \
                    and node.func.attr in ("items", "keys", "values")
                if view or is_call_of(node, {"range", "zip", "enumerate", "reversed"}):
                    self.assertIn(node, allowed, f"{name}:{node.lineno}")

    def test_keywords_of_builtins(self):
        for name, tree in trees():
            for node in ast.walk(tree):
                if isinstance(node, ast.Call) and isinstance(node.func, ast.Name) and node.func.id in BUILTINS:
                    allowed = {"min": {"default", "key"}, "max": {"default", "key"}, "sorted": {"key", "reverse"}}
                    keywords = {keyword.arg for keyword in node.keywords}
                    self.assertLessEqual(keywords, allowed.get(node.func.id, set()), f"{name}:{node.lineno}")

    def test_what_a_loop_goes_over_is_not_changed_in_it(self):
        changing = {"append", "extend", "insert", "pop", "remove", "clear", "update", "setdefault", "reverse"}
        for name, tree in trees():
            for loop in ast.walk(tree):
                if not isinstance(loop, ast.For):
                    continue
                source = ast.unparse(loop.iter)
                for node in ast.walk(loop):
                    if isinstance(node, ast.Call) and isinstance(node.func, ast.Attribute) \
                            and node.func.attr in changing:
                        changed = re.escape(ast.unparse(node.func.value))
                        self.assertIsNone(re.fullmatch(rf"{changed}|(enumerate|zip)\((.*\W)?{changed}(\W.*)?\)", source),
                                          f"{name}:{node.lineno}")


if __name__ == "__main__":
    unittest.main()
