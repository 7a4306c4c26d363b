"""The plainest of the rules of the language, read off the files of the package."""

import ast
import builtins
import keyword
import pathlib
import re
import unittest

PACKAGE = pathlib.Path(__file__).resolve().parent.parent / "oneshelf"
LIBRARY = {"heapq": {"heappush", "heappop", "heapify", "heapreplace", "heappushpop"},
           "math": {"gcd", "lcm", "isqrt", "comb", "perm", "factorial"},
           "itertools": {"product", "combinations", "permutations", "chain", "accumulate", "pairwise", "islice",
                         "zip_longest"},
           "collections": {"defaultdict"}, "__future__": {"annotations"}}
BUILTINS = set("""len range enumerate zip min max sum abs sorted reversed int str bool bytes list tuple dict set
    frozenset isinstance ord repr any all divmod pow getattr hasattr setattr Exception ValueError TypeError KeyError
    IndexError LookupError ZeroDivisionError ArithmeticError OverflowError RuntimeError NotImplementedError
    AttributeError StopIteration NotImplemented print map iter next super property staticmethod classmethod object
    float""".split())
BARRED = set("register mro elements open input law version_info with_traceback add_note".split())
WORDS = ("type typing typing_extensions enum Enum IntEnum StrEnum Flag IntFlag Generic Protocol ABC ABCMeta namedtuple "
         "NamedTuple TypedDict TYPE_CHECKING abstractmethod").split()


def files():
    return sorted(PACKAGE.glob("**/*.py"))


def trees():
    return [(path, ast.parse(path.read_text())) for path in files()]


def bound_names(tree):
    """All names that a file gives to variables, parameters, functions, classes and imports."""
    found = []
    for node in ast.walk(tree):
        if isinstance(node, ast.Name) and isinstance(node.ctx, ast.Store):
            found.append(node.id)
        elif isinstance(node, ast.arg):
            found.append(node.arg)
        elif isinstance(node, ast.ClassDef):
            found.append(node.name)
        elif isinstance(node, ast.alias):
            found.append(node.asname or node.name)
    top = [node.name for node in tree.body if isinstance(node, ast.FunctionDef)]
    return found + top


class TestLanguage(unittest.TestCase):
    def test_there_are_files(self):
        self.assertTrue((PACKAGE / "__init__.py").is_file())
        self.assertLessEqual(len(files()), 100)
        for path in PACKAGE.glob("**/*"):
            if "__pycache__" not in path.parts:
                self.assertTrue(path.is_dir() or re.fullmatch(r"[a-z0-9_]+\.py", path.name), path)
                self.assertFalse(path.is_dir() and not (path / "__init__.py").is_file(), path)

    def test_characters_and_sizes(self):
        for path in files():
            text = path.read_bytes()
            self.assertTrue(all(sign == 10 or 32 <= sign < 127 for sign in text), path)
            lines = text.decode().split("\n")
            self.assertLessEqual(len(lines) - 1, 399, path)
            self.assertLessEqual(max(len(line) for line in lines), 120, path)

    def test_functions_are_short(self):
        for path, tree in trees():
            for node in ast.walk(tree):
                if isinstance(node, ast.FunctionDef):
                    self.assertLessEqual(node.end_lineno - node.lineno + 1, 40, (path, node.name))

    def test_imports(self):
        for path, tree in trees():
            for node in ast.walk(tree):
                if isinstance(node, ast.Import):
                    self.assertEqual((path.name, [name.name for name in node.names]), ("__main__.py", ["sys"]))
                if isinstance(node, ast.ImportFrom):
                    self.assertIn(node, tree.body)
                    self.assertEqual(node.level, 0)
                    for name in node.names:
                        if node.module in LIBRARY:
                            self.assertIn(name.name, LIBRARY[node.module])
                        else:
                            self.assertTrue(self.defines(node.module, name.name), (path, node.module, name.name))

    def defines(self, module, name):
        """Whether the very file of a module defines a name."""
        path = PACKAGE.parent / (module.replace(".", "/") + ".py")
        if not module.startswith("oneshelf.") or not path.is_file():
            return False
        for node in ast.parse(path.read_text()).body:
            targets = [target.id for target in getattr(node, "targets", []) if isinstance(target, ast.Name)]
            if name in targets or getattr(node, "name", None) == name:
                return True
        return False

    def test_no_imports_in_a_ring(self):
        straight = {}
        for path, tree in trees():
            name = ".".join(path.relative_to(PACKAGE.parent).with_suffix("").parts)
            straight[name] = [node.module for node in tree.body if isinstance(node, ast.ImportFrom)]
        done = []
        while len(done) < len(straight):
            free = [name for name in straight if name not in done
                    and all(other in done or other not in straight for other in straight[name])]
            self.assertTrue(free, sorted(set(straight) - set(done)))
            done += free

    def test_statements(self):
        for path, tree in trees():
            for node in ast.walk(tree):
                self.assertNotIsInstance(node, (ast.Global, ast.AsyncFunctionDef, ast.Await, ast.AsyncFor,
                                                ast.AsyncWith, ast.Div), path)
                if isinstance(node, ast.Constant):
                    self.assertNotIsInstance(node.value, (float, complex), path)
                    if isinstance(node.value, str):
                        self.assertNotIn("%", node.value, path)
            for node in tree.body:
                self.assertIsInstance(node, (ast.Expr, ast.ImportFrom, ast.Import, ast.FunctionDef, ast.ClassDef,
                                             ast.Assign, ast.AnnAssign, ast.If), path)

    def test_names(self):
        known = set(dir(builtins))
        for path, tree in trees():
            for name in bound_names(tree):
                self.assertNotIn(name, known | BARRED, path)
                self.assertRegex(name, r"\A(_|_?[A-Za-z][A-Za-z0-9_]*)\Z")
                self.assertFalse(keyword.iskeyword(name))

    def test_builtins(self):
        for path, tree in trees():
            for node in ast.walk(tree):
                if isinstance(node, ast.Name) and hasattr(builtins, node.id) and node.id not in ("__name__",):
                    self.assertIn(node.id, BUILTINS, path)

    def test_locals_are_no_imports_and_no_classes(self):
        for path, tree in trees():
            taken = {name.asname or name.name for node in tree.body if isinstance(node, ast.ImportFrom)
                     for name in node.names} | {node.name for node in tree.body if isinstance(node, ast.ClassDef)}
            for node in ast.walk(tree):
                if isinstance(node, ast.arg):
                    self.assertNotIn(node.arg, taken, path)
                if isinstance(node, ast.Name) and isinstance(node.ctx, ast.Store):
                    self.assertNotIn(node.id, taken, path)

    def test_words(self):
        for path in files():
            code = re.sub(r'"""[\s\S]*?"""|#.*', "", path.read_text())
            for word in WORDS:
                self.assertIsNone(re.search(rf"\b{word}\b", code), (path, word))

    def test_names_of_properties_and_methods(self):
        properties, methods, attributes, kinds = set(), set(), set(), {}
        for path, tree in trees():
            for kind in [node for node in tree.body if isinstance(node, ast.ClassDef)]:
                for node in [node for node in kind.body if isinstance(node, ast.FunctionDef)]:
                    told = [name.id for name in node.decorator_list if isinstance(name, ast.Name)]
                    (properties if "property" in told else methods).add(node.name)
                    kinds.setdefault(node.name, []).append((path.name, kind.name, len(node.args.args)))
            for node in ast.walk(tree):
                if isinstance(node, ast.Attribute) and isinstance(node.ctx, ast.Store):
                    attributes.add(node.attr)
        self.assertFalse(properties & methods)
        self.assertFalse(properties & attributes)
        self.assertFalse(attributes & methods)
        for name, found in kinds.items():
            if not name.startswith("__"):
                self.assertEqual(len({many for _, _, many in found}), 1, (name, found))

    def test_no_changes_in_place(self):
        for path, tree in trees():
            for node in ast.walk(tree):
                self.assertNotIsInstance(node, ast.AugAssign, path)

    def test_is(self):
        for path, tree in trees():
            for node in ast.walk(tree):
                if isinstance(node, ast.Compare) and any(isinstance(op, (ast.Is, ast.IsNot)) for op in node.ops):
                    for side in [node.left] + node.comparators:
                        if isinstance(side, ast.Constant):
                            self.assertIn(repr(side.value), ("None", "True", "False"), (path, node.lineno))


if __name__ == "__main__":
    unittest.main()
