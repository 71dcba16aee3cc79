"""Rules of ../shared/LANGUAGE.md that a short program can look at, in every file of the package."""

import ast
import builtins
import pathlib
import tokenize
import unittest

PACKAGE = pathlib.Path(__file__).resolve().parent.parent / "keptfiles"
BUILTINS = """len range enumerate zip min max sum abs sorted reversed int str bool bytes list tuple dict set frozenset
isinstance ord repr any all divmod pow getattr hasattr setattr iter next map property staticmethod classmethod super
Exception ValueError TypeError KeyError IndexError LookupError ZeroDivisionError ArithmeticError OverflowError
RuntimeError NotImplementedError AttributeError StopIteration NotImplemented""".split()
WORDS = """type typing typing_extensions enum Enum IntEnum StrEnum Flag IntFlag Generic Protocol ABC ABCMeta namedtuple
NamedTuple TypedDict TYPE_CHECKING abstractmethod register mro elements open input law version_info with_traceback
add_note _wall _WallAttr""".split()
METHODS = """append clear copy count endswith extend find get index insert isalnum isalpha isdigit islower isspace isupper
items join keys ljust lower lstrip partition pop remove replace reverse rfind rjust rpartition rsplit rstrip setdefault
split splitlines startswith strip update upper values zfill bit_length isascii""".split()
LIBRARY = {"heapq": "heappush heappop heapify heapreplace heappushpop", "math": "gcd lcm isqrt comb perm factorial",
           "itertools": "product combinations permutations chain accumulate pairwise islice zip_longest",
           "collections": "defaultdict"}
TOP_LEVEL = (ast.ImportFrom, ast.FunctionDef, ast.ClassDef, ast.Assign, ast.AnnAssign)


def files():
    return sorted(path for path in PACKAGE.rglob("*") if path.is_file() and "__pycache__" not in path.parts)


def trees():
    return [(path, ast.parse(path.read_text())) for path in files()]


def nodes(kind):
    return [(path, node) for path, tree in trees() for node in ast.walk(tree) if isinstance(node, kind)]


def bound_names():
    """All names that something is bound to: variables, parameters, functions, classes, imports."""
    found = [(path, node.id) for path, node in nodes(ast.Name) if not isinstance(node.ctx, ast.Load)]
    found += [(path, node.arg) for path, node in nodes(ast.arg)]
    for path, tree in trees():
        methods = [node for kind in ast.walk(tree) if isinstance(kind, ast.ClassDef) for node in kind.body]
        for node in ast.walk(tree):
            if isinstance(node, (ast.FunctionDef, ast.ClassDef)) and node not in methods:
                found.append((path, node.name))
    return found


def methods():
    return {method.name for _, kind in nodes(ast.ClassDef) for method in kind.body if isinstance(method, ast.FunctionDef)}


class Files(unittest.TestCase):
    def test_there_are_only_plain_files(self):
        self.assertIn(PACKAGE / "__init__.py", files())
        for path in files():
            self.assertRegex(path.name, "^[a-z_][a-z0-9_]*[.]py$")

    def test_sizes_and_characters(self):
        for path in files():
            text = path.read_text()
            self.assertTrue(all(sign == "\n" or " " <= sign <= "~" for sign in text), path)
            self.assertLessEqual(len(text.splitlines()), 399, path)
            self.assertLessEqual(max(len(line) for line in text.splitlines()), 120, path)
        for path, node in nodes(ast.FunctionDef):
            self.assertLessEqual(node.end_lineno - node.lineno + 1, 40, (path, node.name))

    def test_module_level(self):
        for path, tree in trees():
            self.assertIsNotNone(ast.get_docstring(tree), path)
            for node in tree.body[1:]:
                self.assertIsInstance(node, TOP_LEVEL, (path, node.lineno))

    def test_imports(self):
        self.assertEqual(nodes(ast.Import), [])
        for path, node in nodes(ast.ImportFrom):
            self.assertEqual(node.level, 0, path)
            for name in node.names:
                self.assertIsNone(name.asname, path)
                if not node.module.startswith("keptfiles."):
                    self.assertIn(name.name, LIBRARY[node.module].split(), path)


    def test_no_files_import_from_each_other(self):
        known = {path.stem: [node.module.split(".")[1] for node in ast.walk(tree) if isinstance(node, ast.ImportFrom)
                             and node.module.startswith("keptfiles.")] for path, tree in trees()}
        while known:
            first = [name for name, others in known.items() if not any(other in known for other in others)]
            self.assertNotEqual(first, [], known)
            known = {name: others for name, others in known.items() if name not in first}

    def test_imports_are_used_and_name_the_file_that_defines(self):
        defined = {path.stem: [node.name for node in tree.body if isinstance(node, (ast.ClassDef, ast.FunctionDef))]
                   + [target.id for node in tree.body if isinstance(node, ast.Assign) for target in node.targets]
                   for path, tree in trees()}
        for path, tree in trees():
            used = [node.id for node in ast.walk(tree) if isinstance(node, ast.Name)]
            for node in ast.walk(tree):
                for name in node.names if isinstance(node, ast.ImportFrom) else ():
                    self.assertIn(name.name, used, path)
                    if node.module.startswith("keptfiles."):
                        self.assertIn(name.name, defined[node.module.split(".")[1]], path)


class Names(unittest.TestCase):
    def test_builtins(self):
        for path, node in nodes(ast.Name):
            if hasattr(builtins, node.id):
                self.assertIn(node.id, BUILTINS, (path, node.lineno))

    def test_nothing_takes_the_name_of_a_builtin(self):
        for path, name in bound_names():
            self.assertFalse(hasattr(builtins, name), (path, name))

    def test_words_that_are_not_used(self):
        for path in files():
            with tokenize.open(path) as file:
                for token in tokenize.generate_tokens(file.readline):
                    if token.type == tokenize.NAME:
                        self.assertNotIn(token.string, WORDS, (path, token.start))

    def test_methods(self):
        own = methods()
        for path, node in nodes(ast.Call):
            if isinstance(node.func, ast.Attribute) and node.func.attr not in own:
                self.assertIn(node.func.attr, METHODS, (path, node.lineno))

    def test_no_name_is_a_method_and_an_attribute(self):
        own = methods()
        for path, node in nodes(ast.Attribute):
            if isinstance(node.ctx, ast.Store):
                self.assertNotIn(node.attr, own, (path, node.lineno))
                self.assertNotIn(node.attr, METHODS, (path, node.lineno))

    def test_no_variable_has_the_name_of_a_class_or_an_import(self):
        for path, tree in trees():
            taken = [name.name for node in tree.body if isinstance(node, ast.ImportFrom) for name in node.names]
            taken += [node.name for node in tree.body if isinstance(node, (ast.ClassDef, ast.FunctionDef))]
            self.assertEqual(len(taken), len(set(taken)), path)
            names = [node.id for node in ast.walk(tree) if isinstance(node, ast.Name) and isinstance(node.ctx, ast.Store)]
            names += [node.arg for node in ast.walk(tree) if isinstance(node, ast.arg)]
            self.assertEqual(set(names) & set(taken), set(), path)

    def test_two_underscores(self):
        for path, name in bound_names():
            self.assertFalse(name.startswith("__"), (path, name))


class Code(unittest.TestCase):
    def test_statements_and_expressions_that_are_not_used(self):
        for kind in (ast.Global, ast.AsyncFunctionDef, ast.Await, ast.Div):
            self.assertEqual(nodes(kind), [], kind)

    def test_constants(self):
        for path, node in nodes(ast.Constant):
            self.assertNotIsInstance(node.value, (float, complex), (path, node.lineno))
            if isinstance(node.value, str):
                self.assertNotIn("%", node.value, (path, node.lineno))

    def test_decorators(self):
        for path, node in nodes((ast.FunctionDef, ast.ClassDef)):
            for told in node.decorator_list:
                self.assertIn(ast.unparse(told).split(".")[-1], ("property", "setter", "staticmethod", "classmethod"))

    def test_no_set_is_changed(self):
        """A class has a method add, so that no set may have one that is called."""
        for path, node in nodes(ast.Call):
            if isinstance(node.func, ast.Attribute) and node.func.attr in ("add", "discard"):
                self.fail((path, node.lineno))

    def test_handlers(self):
        for path, node in nodes(ast.ExceptHandler):
            self.assertIsInstance(node.type, ast.Name, path)
            self.assertFalse(hasattr(builtins, node.type.id), (path, node.lineno))
        for path, node in nodes(ast.Try):
            for row in node.finalbody:
                self.assertIsInstance(row, ast.Assign, (path, row.lineno))

    def test_lambdas(self):
        lines = [(path, node.lineno) for path, node in nodes(ast.Lambda)]
        self.assertEqual(len(lines), len(set(lines)))

    def test_sets_are_not_iterated(self):
        for path, node in nodes((ast.For, ast.comprehension)):
            self.assertNotIsInstance(node.iter, (ast.Set, ast.SetComp), path)

    def test_is_stands_with_constants(self):
        for path, node in nodes(ast.Compare):
            for sign, right in zip(node.ops, node.comparators):
                if isinstance(sign, (ast.Is, ast.IsNot)):
                    self.assertIsInstance(right, ast.Constant, (path, node.lineno))


if __name__ == "__main__":
    unittest.main()
