"""The package keeps to the subset of the language that it is written in, as far as a look at its text tells."""

import ast
import builtins
import os
import unittest

import etaparts

FOLDER = os.path.dirname(os.path.abspath(etaparts.__file__))
LIBRARY = {"math": "gcd lcm isqrt comb perm factorial", "heapq": "heappush heappop heapify heapreplace heappushpop",
           "itertools": "product combinations permutations chain accumulate pairwise islice zip_longest",
           "collections": "defaultdict"}
BUILTINS = """len range enumerate zip min max sum abs sorted reversed int str bool bytes list tuple dict set frozenset
isinstance ord repr any all divmod pow getattr hasattr setattr map iter next super property staticmethod classmethod
Exception ValueError TypeError KeyError IndexError LookupError ZeroDivisionError ArithmeticError OverflowError
RuntimeError NotImplementedError AttributeError StopIteration NotImplemented""".split()
METHODS = """append clear copy count endswith extend find get index insert isalnum isalpha isdigit islower isspace isupper
items join keys ljust lower lstrip partition pop remove replace reverse rfind rjust rpartition rsplit rstrip setdefault
split splitlines startswith strip update upper values zfill bit_length title capitalize swapcase casefold center
expandtabs removeprefix removesuffix rindex isascii isdecimal isnumeric istitle isidentifier isprintable translate sort
add discard format __init__""".split()
UNUSED_NAMES = "register mro elements open input law version_info with_traceback add_note".split()
UNUSED_WORDS = """type typing typing_extensions enum Enum IntEnum StrEnum Flag IntFlag Generic Protocol ABC ABCMeta namedtuple
NamedTuple TypedDict TYPE_CHECKING abstractmethod""".split()
BARRED = (ast.Global, ast.AsyncFunctionDef, ast.AsyncFor, ast.AsyncWith, ast.Await, ast.Div, ast.MatMult)


def files():
    return sorted(name for name in os.listdir(FOLDER) if name != "__pycache__")


def text_of(name):
    with open(os.path.join(FOLDER, name), encoding="utf-8", newline="") as file:
        return file.read()


def trees():
    return [(name, ast.parse(text_of(name))) for name in files()]


def bound_names(tree):
    """All names that are defined, assigned, taken or imported somewhere in a file."""
    names = []
    for node in ast.walk(tree):
        if isinstance(node, ast.Name) and not isinstance(node.ctx, ast.Load):
            names.append(node.id)
        elif isinstance(node, (ast.FunctionDef, ast.ClassDef)):
            names.append(node.name)
        elif isinstance(node, ast.arg):
            names.append(node.arg)
        elif isinstance(node, ast.ExceptHandler) and node.name is not None:
            names.append(node.name)
        elif isinstance(node, ast.ImportFrom):
            names += [alias.asname or alias.name for alias in node.names]
    return names


def own_methods():
    """The names of the methods of the package's classes, but for those of errors."""
    return [part.name for _, tree in trees() for node in tree.body if isinstance(node, ast.ClassDef)
            for part in node.body if isinstance(part, ast.FunctionDef) and part.name != "__init__"]


def is_plain(node):
    """Whether a value at module level is a plain one."""
    if isinstance(node, (ast.List, ast.Tuple)):
        return all(is_plain(part) for part in node.elts)
    if isinstance(node, ast.Dict):
        return all(is_plain(part) for part in node.keys + node.values)
    if isinstance(node, ast.UnaryOp):
        return is_plain(node.operand)
    return isinstance(node, (ast.Constant, ast.Name))


class TestLanguage(unittest.TestCase):
    def test_files(self):
        self.assertIn("__init__.py", files())
        for name in files():
            self.assertRegex(name, r"^[a-z_][a-z0-9_]*\.py$")
        self.assertLessEqual(len(files()), 100)

    def test_sizes_and_characters(self):
        for name in files():
            text = text_of(name)
            lines = text.split("\n")
            self.assertLessEqual(len(lines) - 1, 399, name)
            self.assertTrue(text.endswith("\n"), name)
            self.assertTrue(all(len(line) <= 120 for line in lines), name)
            self.assertTrue(all(sign == "\n" or " " <= sign <= "~" for sign in text), name)
            for node in ast.walk(ast.parse(text)):
                if isinstance(node, ast.FunctionDef):
                    self.assertLessEqual(node.end_lineno - node.lineno + 1, 40, (name, node.name))

    def test_module_level(self):
        for name, tree in trees():
            bound = []
            for position, node in enumerate(tree.body):
                if isinstance(node, ast.Expr):
                    self.assertEqual(position, 0, name)
                    self.assertIsInstance(node.value.value, str, name)
                elif isinstance(node, ast.Assign):
                    self.assertTrue(len(node.targets) == 1 and isinstance(node.targets[0], ast.Name), name)
                    self.assertTrue(is_plain(node.value), (name, node.lineno))
                    bound.append(node.targets[0].id)
                else:
                    self.assertIsInstance(node, (ast.ImportFrom, ast.FunctionDef, ast.ClassDef), name)
                    bound += [node.name] if not isinstance(node, ast.ImportFrom) else [a.name for a in node.names]
            self.assertEqual(len(bound), len(set(bound)), name)

    def test_imports(self):
        defined = {name[:-3]: [node.name for node in tree.body if hasattr(node, "name")]
                   + [node.targets[0].id for node in tree.body if isinstance(node, ast.Assign)]
                   for name, tree in trees()}
        needs = {}
        for name, tree in trees():
            needs[name[:-3]] = []
            for node in ast.walk(tree):
                self.assertNotIsInstance(node, ast.Import, name)
                if not isinstance(node, ast.ImportFrom):
                    continue
                self.assertIn(node, tree.body, name)
                self.assertEqual(node.level, 0, name)
                self.assertTrue(all(alias.asname is None for alias in node.names), name)
                words = [alias.name for alias in node.names]
                if node.module in LIBRARY:
                    self.assertTrue(all(word in LIBRARY[node.module].split() for word in words), name)
                else:
                    self.assertTrue(node.module.startswith("etaparts."), name)
                    self.assertTrue(all(word in defined[node.module[9:]] for word in words), (name, words))
                    needs[name[:-3]].append(node.module[9:])
        while needs:
            ready = [name for name in needs if not any(other in needs for other in needs[name])]
            self.assertTrue(ready, "files import one another: " + str(sorted(needs)))
            needs = {name: needs[name] for name in needs if name not in ready}

    def test_imported_names_are_used(self):
        for name, tree in trees():
            used = [node.id for node in ast.walk(tree) if isinstance(node, ast.Name)]
            for node in tree.body:
                if isinstance(node, ast.ImportFrom):
                    for alias in node.names:
                        self.assertIn(alias.name, used, name)

    def test_names(self):
        for name, tree in trees():
            own = bound_names(tree)
            for word in own:
                if word != "_" and not (word.startswith("__") and word.endswith("__")):
                    self.assertFalse(hasattr(builtins, word), (name, word))
                    self.assertNotIn(word, UNUSED_NAMES, name)
                    self.assertFalse(word.startswith("__"), (name, word))
            for node in ast.walk(tree):
                if isinstance(node, ast.Name) and node.id not in own:
                    self.assertIn(node.id, BUILTINS, name)
                if isinstance(node, ast.Name) and isinstance(node.ctx, ast.Load):
                    self.assertNotEqual(node.id, "_", name)

    def test_no_local_name_is_an_import_or_a_class(self):
        for name, tree in trees():
            taken = [node.name for node in tree.body if isinstance(node, ast.ClassDef)]
            for node in tree.body:
                if isinstance(node, ast.ImportFrom):
                    taken += [alias.name for alias in node.names]
            for node in ast.walk(tree):
                if isinstance(node, ast.Name) and not isinstance(node.ctx, ast.Load):
                    self.assertNotIn(node.id, taken, name)
                if isinstance(node, ast.arg):
                    self.assertNotIn(node.arg, taken, name)

    def test_statements_and_signs(self):
        for name, tree in trees():
            for node in ast.walk(tree):
                self.assertNotIsInstance(node, BARRED, (name, getattr(node, "lineno", 0)))
                if isinstance(node, ast.Constant):
                    self.assertNotIsInstance(node.value, (float, complex), name)
                if isinstance(node, (ast.BinOp, ast.AugAssign)) and isinstance(node.op, ast.Pow):
                    self.assertIsInstance(node.right, ast.Constant, name)
                    self.assertLessEqual(node.right.value, 64, name)
                if isinstance(node, ast.Raise) and node.exc is not None:
                    self.assertTrue(isinstance(node.exc, ast.Call) and isinstance(node.exc.func, ast.Name), name)
                if isinstance(node, ast.ExceptHandler):
                    self.assertIsNotNone(node.type, name)
                if isinstance(node, ast.Compare):
                    self.identity_is_right(name, node)

    def identity_is_right(self, name, node):
        for sign, right in zip(node.ops, node.comparators):
            if isinstance(sign, (ast.Is, ast.IsNot)):
                self.assertTrue(isinstance(right, ast.Constant) and right.value in (None, True, False), name)

    def test_strings(self):
        for name, tree in trees():
            docs = [ast.get_docstring(node, clean=False) for node in ast.walk(tree)
                    if isinstance(node, (ast.Module, ast.ClassDef, ast.FunctionDef))]
            for node in ast.walk(tree):
                if isinstance(node, ast.Constant) and isinstance(node.value, str):
                    self.assertNotIn("%", node.value, name)
                    if node.value not in docs:
                        for word in UNUSED_WORDS:
                            self.assertNotIn(word, node.value.split(), name)

    def test_calls(self):
        allowed = METHODS + own_methods()
        for name, tree in trees():
            for node in ast.walk(tree):
                if isinstance(node, ast.Attribute):
                    self.assertNotIn(node.attr, UNUSED_NAMES, name)
                if isinstance(node, ast.Call) and isinstance(node.func, ast.Attribute):
                    self.assertIn(node.func.attr, allowed, (name, node.lineno))
                if isinstance(node, ast.Call):
                    self.assertIsInstance(node.func, (ast.Name, ast.Attribute), (name, node.lineno))

    def test_what_a_class_with_operators_asks_of_all_files(self):
        operators = ("__getitem__", "__contains__", "__len__")
        self.assertTrue(all(word in own_methods() for word in operators + ("__iter__",)))
        for name, tree in trees():
            text = text_of(name)
            self.assertFalse("(type)" in text or "Meta" in text or "metaclass=" in text, name)
            for node in ast.walk(tree):
                if isinstance(node, ast.Call) and isinstance(node.func, ast.Attribute):
                    self.assertNotIn(node.func.attr, ("sort",), (name, node.lineno))
                if isinstance(node, ast.Call) and isinstance(node.func, ast.Name) and node.func.id == "reversed":
                    self.assertIn(getattr(getattr(node.args[0], "func", None), "id", ""), ("list", "tuple", "sorted", "range"), name)
                if isinstance(node, ast.Call) and isinstance(node.func, ast.Name) and node.func.id == "sorted":
                    self.assertNotIsInstance(node.args[0], ast.GeneratorExp, name)
                if isinstance(node, ast.FunctionDef) and node.name in operators:
                    for part in ast.walk(node):
                        self.assertNotIsInstance(part, (ast.Assign, ast.AugAssign, ast.For, ast.Delete), (name, node.name))
                if isinstance(node, ast.FunctionDef) and node.name == "__len__":
                    self.assertEqual(node.body[-1].value.func.id, "len", name)
                if isinstance(node, ast.ClassDef):
                    self.assertNotIn("keys", [part.name for part in node.body if isinstance(part, ast.FunctionDef)], name)

    def test_library_names_stay_out_of_tries(self):
        for name, tree in trees():
            for node in ast.walk(tree):
                if isinstance(node, ast.ExceptHandler):
                    words = [part.id for part in ast.walk(node.type) if isinstance(part, ast.Name)]
                    self.assertTrue(all(word.endswith("Error") or word in ("TooMany", "NotFitting") for word in words), name)
                    self.assertFalse(any(hasattr(builtins, word) for word in words), (name, words))

    def test_generators_stand_in_calls(self):
        allowed = "list tuple dict sorted sum min max any all join".split()
        for name, tree in trees():
            inside = []
            for node in ast.walk(tree):
                if isinstance(node, ast.Call):
                    word = node.func.id if isinstance(node.func, ast.Name) else node.func.attr
                    inside += [part for part in node.args if isinstance(part, ast.GeneratorExp) and word in allowed]
            for node in ast.walk(tree):
                if isinstance(node, ast.GeneratorExp):
                    self.assertIn(node, inside, (name, node.lineno))


if __name__ == "__main__":
    unittest.main()
