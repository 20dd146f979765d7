"""Rules of LANGUAGE.md that a test can see (L1 to L5, L7, L8, L10, L12, L14 to L18, L25, L26).

No wider than the program needs.
"""

import ast
import builtins
import pathlib
import re
import unittest

PACKAGE = pathlib.Path(__file__).resolve().parent.parent / "bucketfall"
FILES = sorted(PACKAGE.rglob("*.py"))
ALLOWED_BUILTINS = set(
    "len range enumerate zip min max sum abs sorted reversed int str bool list tuple dict set "
    "isinstance ord repr any all divmod ValueError KeyError IndexError".split()
)
# Of the methods that L25 allows, those that the program calls.
ALLOWED_METHODS = set("append find join pop setdefault".split())
BARRED_WORDS = set(
    "register mro elements open input law version_info with_traceback add_note type typing typing_extensions enum Enum "
    "IntEnum StrEnum Flag IntFlag Generic Protocol ABC ABCMeta namedtuple NamedTuple TypedDict TYPE_CHECKING "
    "abstractmethod dataclass overload contextmanager".split()
)


def trees():
    return [(path, ast.parse(path.read_text("ascii"))) for path in FILES]


class Files(unittest.TestCase):
    def test_the_package_holds_only_its_files(self):
        found = [path for path in PACKAGE.rglob("*") if "__pycache__" not in path.parts]
        self.assertEqual(sorted(found), FILES)
        self.assertIn(PACKAGE / "__init__.py", FILES)
        self.assertFalse([path for path in FILES if path.name.startswith("test")])

    def test_signs_and_sizes(self):
        for path in FILES:
            text = path.read_bytes().decode("ascii")
            lines = text.split("\n")
            with self.subTest(path=path.name):
                self.assertTrue(all(sign == "\n" or " " <= sign <= "~" for sign in text))
                self.assertLessEqual(len(lines), 399)
                self.assertLessEqual(max(len(line) for line in lines), 120)

    def test_functions_have_at_most_40_lines(self):
        for path, tree in trees():
            for node in ast.walk(tree):
                if isinstance(node, ast.FunctionDef):
                    with self.subTest(path=path.name, name=node.name):
                        self.assertLessEqual(node.end_lineno - node.lineno + 1, 40)
                        self.assertEqual(node.decorator_list, [])

    def test_imports_are_from_the_package_by_full_names(self):
        for path, tree in trees():
            for node in ast.walk(tree):
                self.assertNotIsInstance(node, ast.Import)
                if isinstance(node, ast.ImportFrom):
                    with self.subTest(path=path.name, module=node.module):
                        self.assertEqual(node.level, 0)
                        self.assertEqual(node.module.split(".")[0], "bucketfall")
                        self.assertNotIn("*", [name.name for name in node.names])

    def test_module_level_names_are_bound_once(self):
        for path, tree in trees():
            bound = []
            for node in tree.body:
                self.assertIsInstance(node, (ast.Expr, ast.ImportFrom, ast.Assign, ast.FunctionDef, ast.ClassDef))
                if isinstance(node, ast.ImportFrom):
                    bound += [name.asname or name.name for name in node.names]
                elif isinstance(node, ast.Assign):
                    bound += [target.id for target in node.targets]
                elif isinstance(node, (ast.FunctionDef, ast.ClassDef)):
                    bound.append(node.name)
            with self.subTest(path=path.name):
                self.assertEqual(len(bound), len(set(bound)))


class Words(unittest.TestCase):
    def test_no_other_builtin_is_used_and_none_is_given_another_meaning(self):
        known = set(dir(builtins))
        for path, tree in trees():
            for node in ast.walk(tree):
                if isinstance(node, ast.Name) and node.id in known:
                    with self.subTest(path=path.name, name=node.id, line=node.lineno):
                        self.assertIsInstance(node.ctx, ast.Load)
                        self.assertIn(node.id, ALLOWED_BUILTINS)
                elif isinstance(node, ast.arg):
                    self.assertNotIn(node.arg, known)
                elif isinstance(node, (ast.FunctionDef, ast.ClassDef)):
                    self.assertNotIn(node.name, known)

    def test_barred_kinds_of_code(self):
        barred = (ast.Global, ast.AsyncFunctionDef, ast.Await, ast.Div)
        for path, tree in trees():
            for node in ast.walk(tree):
                with self.subTest(path=path.name):
                    self.assertNotIsInstance(node, barred)
                    if isinstance(node, ast.Constant):
                        self.assertNotIsInstance(node.value, float)
                        self.assertFalse(isinstance(node.value, str) and "%" in node.value)

    def test_barred_words(self):
        for path in FILES:
            with self.subTest(path=path.name):
                self.assertFalse(BARRED_WORDS & set(re.findall("[A-Za-z_]+", path.read_text("ascii"))))

    def test_names_are_plain(self):
        for path, tree in trees():
            for node in ast.walk(tree):
                for name in [getattr(node, field, None) for field in ("id", "arg", "attr", "name")]:
                    if isinstance(name, str) and name not in ("__init__", "_"):
                        with self.subTest(path=path.name, name=name):
                            self.assertRegex(name, "^_?[A-Za-z][A-Za-z0-9_]*$")


class Classes(unittest.TestCase):
    def test_what_stands_in_a_class(self):
        for path, tree in trees():
            for owner in [node for node in ast.walk(tree) if isinstance(node, ast.ClassDef)]:
                self.assertIn(owner, tree.body)
                methods = [node.name for node in owner.body if isinstance(node, ast.FunctionDef)]
                assigned = [
                    node.attr
                    for node in ast.walk(owner)
                    if isinstance(node, ast.Attribute) and isinstance(node.ctx, ast.Store)
                ]
                with self.subTest(path=path.name, owner=owner.name):
                    self.assertEqual(len(owner.body), len(methods) + 1)
                    self.assertIsNotNone(ast.get_docstring(owner))
                    self.assertEqual(len(methods), len(set(methods)))
                    self.assertFalse(set(methods) & set(assigned))

    def test_methods_and_attributes_have_names_of_their_own(self):
        own_methods, assigned, called, read = set(), set(), set(), set()
        for _, tree in trees():
            for node in ast.walk(tree):
                if isinstance(node, ast.ClassDef):
                    own_methods |= {part.name for part in node.body if isinstance(part, ast.FunctionDef)}
                elif isinstance(node, ast.Call) and isinstance(node.func, ast.Attribute):
                    called.add(node.func.attr)
                elif isinstance(node, ast.Attribute):
                    (assigned if isinstance(node.ctx, ast.Store) else read).add(node.attr)
        taken = {name for kind in (str, int, list, dict, set, bytes, tuple) for name in dir(kind)}
        self.assertEqual((own_methods | assigned) & taken, {"__init__"})
        self.assertEqual(called - own_methods - ALLOWED_METHODS, set())
        self.assertEqual(read - assigned - own_methods - ALLOWED_METHODS, set())


if __name__ == "__main__":
    unittest.main()
