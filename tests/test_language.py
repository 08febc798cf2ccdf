"""The files of the package keep to the rules of the language that can be read off them."""

import ast
import builtins
import os
import re
import unittest

ROOT = os.path.join(os.path.dirname(os.path.dirname(os.path.abspath(__file__))), "unswayed")

LIBRARY = {
    "math": {"gcd", "lcm", "isqrt", "comb", "perm", "factorial"},
    "itertools": {"product", "combinations", "permutations"},
    "heapq": {"heappush", "heappop", "heapify", "heapreplace", "heappushpop"},
}
BUILTINS = set("""len range enumerate zip min max sum abs sorted reversed int str bool list tuple dict set
isinstance ord repr any all divmod pow ValueError""".split())
METHODS = set("""append clear copy count endswith extend find get index insert isalnum isalpha isdigit islower
isspace isupper items join keys ljust lower lstrip partition pop remove replace reverse rfind rjust rpartition
rsplit rstrip setdefault split splitlines startswith strip update upper values zfill bit_length""".split())
BARRED_WORDS = """type typing typing_extensions enum Enum IntEnum StrEnum Flag IntFlag Generic Protocol ABC ABCMeta
namedtuple NamedTuple TypedDict TYPE_CHECKING abstractmethod _wall _WallAttr""".split()
BARRED_NAMES = set("""register mro elements open input law version_info with_traceback add_note attrgetter
breakpoint builtins compile copyright credits delattr dir eval exec exit gc globals help id importlib license
locals methodcaller os quit super type vars sys""".split())
BARRED_NODES = (
    ast.GeneratorExp, ast.Lambda, ast.Global, ast.Nonlocal, ast.AsyncFunctionDef, ast.Import, ast.Set, ast.SetComp,
    ast.With, ast.Yield, ast.YieldFrom, ast.Div, ast.MatMult, ast.NamedExpr, ast.AnnAssign)
AT_ONCE = {"zip", "enumerate", "reversed", "range", "items", "keys", "values"}
TAKING = {
    "list", "tuple", "dict", "sorted", "sum", "any", "all", "enumerate", "zip", "product", "combinations", "permutations"}


def files():
    return sorted(name for name in os.listdir(ROOT) if name != "__pycache__")


def text_of(name):
    with open(os.path.join(ROOT, name), encoding="utf-8") as file:
        return file.read()


def trees():
    return [(name, ast.parse(text_of(name))) for name in files()]


def called_name(node):
    if isinstance(node, ast.Call):
        if isinstance(node.func, ast.Name):
            return node.func.id
        if isinstance(node.func, ast.Attribute) and node.func.attr in ("items", "keys", "values"):
            return node.func.attr
    return None


def bound_names(function):
    arguments = function.args
    names = [one.arg for one in arguments.posonlyargs + arguments.args + arguments.kwonlyargs]
    for node in ast.walk(function):
        if isinstance(node, ast.Name) and isinstance(node.ctx, ast.Store):
            names.append(node.id)
    return names


class LanguageTest(unittest.TestCase):
    def test_only_plain_files_stand_in_the_package(self):
        for name in files():
            self.assertRegex(name, r"^[a-z0-9_]+\.py$")
        self.assertIn("__init__.py", files())

    def test_sizes_and_characters(self):
        for name in files():
            text = text_of(name)
            lines = text.split("\n")
            self.assertLessEqual(len(lines), 399, name)
            self.assertTrue(all(len(line) <= 120 for line in lines), name)
            self.assertTrue(all(char == "\n" or " " <= char <= "~" for char in text), name)
            for node in ast.walk(ast.parse(text)):
                if isinstance(node, ast.FunctionDef):
                    self.assertLessEqual(node.end_lineno - node.lineno + 1, 40, (name, node.name))
                    self.assertTrue(ast.get_docstring(node) or node.name.startswith("__"), (name, node.name))

    def test_no_barred_parts_of_the_language(self):
        for name, tree in trees():
            for node in ast.walk(tree):
                self.assertNotIsInstance(node, BARRED_NODES, (name, getattr(node, "lineno", 0)))
                if isinstance(node, ast.Constant):
                    self.assertNotIsInstance(node.value, (float, complex), (name, node.lineno))
                    self.assertNotIn("%", str(node.value), (name, node.lineno))
                if isinstance(node, ast.BinOp) and isinstance(node.op, ast.Pow):
                    self.assertIsInstance(node.right, ast.Constant, (name, node.lineno))
                    self.assertLessEqual(node.right.value, 64)
                if isinstance(node, ast.Compare):
                    for op, right in zip(node.ops, node.comparators):
                        if isinstance(op, (ast.Is, ast.IsNot)):
                            self.assertIsInstance(right, ast.Constant, (name, node.lineno))
                if isinstance(node, ast.Starred):
                    self.assertIsInstance(node.value, (ast.Name, ast.Attribute), (name, node.lineno))

    def test_handlers_catch_own_errors_by_name(self):
        own = {name for name, tree in trees() if name == "errors.py" for name in self.defined(tree)}
        for name, tree in trees():
            for node in ast.walk(tree):
                if isinstance(node, ast.Try):
                    self.assertEqual((node.finalbody, node.orelse), ([], []), (name, node.lineno))
                    for handler in node.handlers:
                        caught = handler.type.elts if isinstance(handler.type, ast.Tuple) else [handler.type]
                        self.assertLessEqual({one.id for one in caught}, own, (name, node.lineno))
                if isinstance(node, ast.Raise):
                    self.assertIn(node.exc.func.id, own, (name, node.lineno))

    def test_strings_with_braces(self):
        for name, tree in trees():
            for node in ast.walk(tree):
                if isinstance(node, ast.JoinedStr):
                    self.assertEqual(node.lineno, node.end_lineno, name)
                if isinstance(node, ast.FormattedValue):
                    self.assertEqual((node.conversion, node.format_spec), (-1, None), (name, node.lineno))
                    self.assertFalse([one for one in ast.walk(node.value) if isinstance(one, ast.Constant)], name)

    def test_no_name_is_a_method_and_an_attribute(self):
        methods, attributes = set(), set()
        for name, tree in trees():
            for node in ast.walk(tree):
                if isinstance(node, ast.ClassDef):
                    methods |= {one.name for one in node.body if isinstance(one, ast.FunctionDef)}
                if isinstance(node, ast.Attribute) and isinstance(node.ctx, ast.Store):
                    attributes.add(node.attr)
        self.assertEqual(methods & attributes, set())

    def test_module_level_and_classes(self):
        for name, tree in trees():
            for node in tree.body:
                self.assertIsInstance(
                    node, (ast.Expr, ast.ImportFrom, ast.FunctionDef, ast.ClassDef, ast.Assign), (name, node.lineno))
                if isinstance(node, ast.Expr):
                    self.assertIsInstance(node.value, ast.Constant)
            for node in ast.walk(tree):
                if isinstance(node, ast.FunctionDef):
                    allowed = ["property"] if node.decorator_list else []
                    self.assertEqual([one.id for one in node.decorator_list], allowed)
                    inner = [one for one in ast.walk(node) if isinstance(one, ast.FunctionDef)]
                    self.assertEqual(inner, [node], (name, node.name))

    def test_imports(self):
        known = {name[:-3]: self.defined(tree) for name, tree in trees()}
        edges = {}
        for name, tree in trees():
            edges[name[:-3]] = []
            for node in ast.walk(tree):
                if not isinstance(node, ast.ImportFrom):
                    continue
                self.assertEqual(node.level, 0)
                self.assertIn(node, tree.body)
                words = [alias.name for alias in node.names]
                self.assertTrue(all(alias.asname is None for alias in node.names))
                if node.module in LIBRARY:
                    self.assertLessEqual(set(words), LIBRARY[node.module])
                    continue
                self.assertTrue(node.module.startswith("unswayed."), (name, node.module))
                target = node.module[len("unswayed."):]
                self.assertLessEqual(set(words), known[target], (name, target))
                edges[name[:-3]].append(target)
                self.check_used(name, tree, words)
        self.check_no_rings(edges)

    def defined(self, tree):
        names = set()
        for node in tree.body:
            if isinstance(node, (ast.FunctionDef, ast.ClassDef)):
                names.add(node.name)
            if isinstance(node, ast.Assign):
                names.add(node.targets[0].id)
        return names

    def check_used(self, name, tree, words):
        read = {node.id for node in ast.walk(tree) if isinstance(node, ast.Name)}
        self.assertLessEqual(set(words), read, name)

    def check_no_rings(self, edges):
        left = dict(edges)
        while left:
            free = [name for name in left if not any(target in left for target in left[name])]
            self.assertTrue(free, "files import from each other: " + str(sorted(left)))
            for name in free:
                del left[name]

    def test_names(self):
        for name, tree in trees():
            barred = set(dir(builtins)) | BARRED_NAMES
            outer = set()
            for node in tree.body:
                if isinstance(node, ast.ImportFrom):
                    outer |= {alias.name for alias in node.names}
            outer |= self.defined(tree)
            self.assertFalse(self.defined(tree) & barred, name)
            for node in ast.walk(tree):
                if isinstance(node, ast.FunctionDef):
                    self.assertFalse(set(bound_names(node)) & (barred | outer), (name, node.name))
            text = text_of(name)
            for word in BARRED_WORDS:
                self.assertIsNone(re.search(r"\b" + word + r"\b", text), (name, word))

    def test_calls(self):
        own = set()
        for _, tree in trees():
            for node in ast.walk(tree):
                if isinstance(node, ast.FunctionDef):
                    own.add(node.name)
        for name, tree in trees():
            here = self.defined(tree) | {
                alias.name for node in tree.body if isinstance(node, ast.ImportFrom) for alias in node.names}
            for node in ast.walk(tree):
                if isinstance(node, ast.Call) and isinstance(node.func, ast.Name):
                    self.assertIn(node.func.id, here | BUILTINS, (name, node.lineno))
                if isinstance(node, ast.Call) and isinstance(node.func, ast.Attribute):
                    self.assertIn(node.func.attr, METHODS | own, (name, node.lineno))

    def test_iterated_at_once(self):
        for name, tree in trees():
            good = set()
            for node in ast.walk(tree):
                if isinstance(node, (ast.For, ast.comprehension)):
                    good.add(node.iter)
                if isinstance(node, ast.Call) and called_name(node) in TAKING:
                    good |= set(node.args)
                if called_name(node) == "reversed" and called_name(node.args[0]) == "range":
                    good.add(node.args[0])
                if isinstance(node, ast.Compare):
                    good |= {one for op, one in zip(node.ops, node.comparators) if isinstance(op, ast.In)}
            for node in ast.walk(tree):
                if called_name(node) in AT_ONCE:
                    self.assertIn(node, good, (name, node.lineno))


if __name__ == "__main__":
    unittest.main()
