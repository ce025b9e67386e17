"""The form of the package: the rules of its subset of Python that can be told from the code alone.

Each rule stands under its number. Rules on parts of the language that the package does not use so far are kept by
barring that part; where a later module needs it, the rule is to be written out here.
"""

import ast
import builtins
import io
import pathlib
import tokenize
import unittest

FOLDER = pathlib.Path(__file__).resolve().parent.parent / "boxedroots"
FILES = sorted(FOLDER.rglob("*.py"))
# heapq, which the rules let, is left out: see test_l2_heaps_and_l28_equality.
LIBRARY = {
    "math": {"gcd", "lcm", "isqrt", "comb", "perm", "factorial"},
    "itertools": {
        "product", "combinations", "permutations", "chain", "accumulate", "pairwise", "islice", "zip_longest",
    },
    "collections": {"defaultdict"},
}
BUILTINS = set(
    "len range enumerate zip min max sum abs sorted reversed int str bool list tuple dict set isinstance ord repr any "
    "all divmod ValueError TypeError KeyError IndexError LookupError ZeroDivisionError".split()
)
METHODS = set(
    "append clear copy count endswith extend find get index insert isalnum isalpha isdigit islower isspace isupper "
    "items join keys ljust lower lstrip partition pop remove replace reverse rfind rjust rpartition rsplit rstrip "
    "setdefault split splitlines startswith strip update upper values zfill bit_length add discard".split()
)
DUNDERS = {"__init__", "__eq__"}
BARRED_WORDS = set(
    "type typing typing_extensions enum Enum IntEnum StrEnum Flag IntFlag Generic Protocol ABC ABCMeta namedtuple "
    "NamedTuple TypedDict TYPE_CHECKING abstractmethod dataclass overload contextmanager".split()
)
BARRED_NAMES = set(
    "register mro elements open input law version_info with_traceback add_note attrgetter breakpoint builtins compile "
    "copyright credits delattr dir eval exec exit gc globals help id importlib license locals methodcaller os quit "
    "super vars sys next iter map _cold _record _outside".split()
)
BARRED_NODES = (
    ast.Global, ast.Nonlocal, ast.AsyncFor, ast.AsyncFunctionDef, ast.AsyncWith, ast.Await, ast.Yield, ast.YieldFrom,
    ast.GeneratorExp, ast.With, ast.Match, ast.Lambda, ast.Starred, ast.NamedExpr, ast.Import, ast.AnnAssign,
    ast.Div, ast.MatMult, ast.Assert,
)


def tree_of(file):
    return ast.parse(file.read_text())


def nodes(kind):
    """Each node of a kind in the package, behind the name of its file."""
    for file in FILES:
        for node in ast.walk(tree_of(file)):
            if isinstance(node, kind):
                yield file.name, node


def bound_names(tree):
    """The names that functions, classes, parameters, assignments and imports bind."""
    for node in ast.walk(tree):
        if isinstance(node, (ast.FunctionDef, ast.ClassDef)):
            yield node.name
        elif isinstance(node, ast.arg):
            yield node.arg
        elif isinstance(node, ast.Name) and isinstance(node.ctx, ast.Store):
            yield node.id
        elif isinstance(node, ast.alias):
            yield node.asname or node.name


def imports_of(tree):
    return [node for node in tree.body if isinstance(node, ast.ImportFrom)]


class FormTest(unittest.TestCase):
    def test_l1_files(self):
        names = {str(path.relative_to(FOLDER)) for path in FOLDER.rglob("*") if "__pycache__" not in path.parts}
        self.assertIn("__init__.py", names)
        for name in names:
            self.assertRegex(name, r"\A[a-z_]+\.py\Z")
            self.assertNotIn(name[:-3], set(dir(builtins)) | set(LIBRARY) | {"heapq"} | BARRED_NAMES | BARRED_WORDS)

    def test_l2_and_l16_imports(self):
        for file in FILES:
            tree = tree_of(file)
            seen_other = False
            for at, node in enumerate(tree.body):
                if not isinstance(node, ast.ImportFrom):
                    seen_other = seen_other or at > 0
                    continue
                self.assertFalse(seen_other, f"{file.name}: an import behind other rows")
                self.assertEqual(node.level, 0)
                for alias in node.names:
                    self.assertIsNone(alias.asname)
                    if node.module in LIBRARY:
                        self.assertIn(alias.name, LIBRARY[node.module])
                    else:
                        self.defined(node.module, alias.name)

    def defined(self, module, name):
        """The very file that is named defines the name."""
        package, _, rest = module.partition(".")
        self.assertEqual(package, "boxedroots")
        found = set()
        for node in tree_of(FOLDER / (rest + ".py")).body:
            if isinstance(node, (ast.FunctionDef, ast.ClassDef)):
                found.add(node.name)
            elif isinstance(node, ast.Assign):
                found.add(node.targets[0].id)
        self.assertIn(name, found)

    def test_l16_no_circles(self):
        below = {
            file.stem: {node.module.partition(".")[2] for node in imports_of(tree_of(file))} & {f.stem for f in FILES}
            for file in FILES
        }
        while below:
            free = [name for name, others in below.items() if not others & set(below)]
            self.assertTrue(free, below)
            for name in free:
                del below[name]

    def test_imports_are_used(self):
        for file in FILES:
            tree = tree_of(file)
            used = {node.id for node in ast.walk(tree) if isinstance(node, ast.Name)}
            for node in imports_of(tree):
                for alias in node.names:
                    self.assertIn(alias.name, used, file.name)

    def test_l3_module_level(self):
        for file in FILES:
            for at, node in enumerate(tree_of(file).body):
                if at == 0:
                    self.assertIsInstance(node, ast.Expr)
                    self.assertIsInstance(node.value.value, str)
                    continue
                self.assertIsInstance(node, (ast.ImportFrom, ast.FunctionDef, ast.ClassDef, ast.Assign), file.name)
                if isinstance(node, ast.Assign):
                    self.assertEqual(len(node.targets), 1)
                    ast.literal_eval(node.value)

    def test_l4_and_l5_functions_and_classes(self):
        for name, node in nodes((ast.FunctionDef, ast.ClassDef)):
            self.assertEqual(node.decorator_list, [], name)
            self.assertIsNotNone(ast.get_docstring(node) or node.name in DUNDERS or None, f"{name}: {node.name}")
            if node.name.startswith("__"):
                self.assertIn(node.name, DUNDERS)
        for name, node in nodes(ast.arguments):
            self.assertFalse(node.vararg or node.kwarg or node.kwonlyargs or node.posonlyargs, name)
            for default in node.defaults:
                ast.literal_eval(default)

    def test_l6_to_l8_what_is_not_used(self):
        for name, node in nodes(BARRED_NODES):
            self.fail(f"{name}, line {getattr(node, 'lineno', '?')}: {type(node).__name__}")
        for name, node in nodes(ast.Constant):
            self.assertNotIsInstance(node.value, (float, complex), name)

    def test_l19_errors(self):
        own = {node.name for node in tree_of(FOLDER / "errors.py").body if isinstance(node, ast.ClassDef)}
        for name, node in nodes(ast.Try):
            self.assertEqual((node.orelse, node.finalbody), ([], []), f"{name}, line {node.lineno}")
            for handler in node.handlers:
                self.assertIn(handler.type.id, own, f"{name}, line {node.lineno}")
                self.assertIsNone(handler.name)
        for name, node in nodes(ast.Raise):
            self.assertIsInstance(node.exc, ast.Call, f"{name}, line {node.lineno}")
            self.assertIn(node.exc.func.id, own)
            self.assertIsNone(node.cause)

    def test_l8_builtins(self):
        for file in FILES:
            own = set(bound_names(tree_of(file)))
            for node in ast.walk(tree_of(file)):
                if isinstance(node, ast.Name) and node.id not in own:
                    self.assertIn(node.id, BUILTINS, f"{file.name}, line {node.lineno}")

    def test_l10_sizes(self):
        for file in FILES:
            lines = file.read_text().split("\n")
            self.assertLessEqual(len(lines), 399, file.name)
            for at, line in enumerate(lines):
                self.assertLessEqual(len(line), 120, f"{file.name}, line {at + 1}")
        for name, node in nodes(ast.FunctionDef):
            self.assertLessEqual(node.end_lineno - node.lineno + 1, 40, f"{name}: {node.name}")

    def test_l2_heaps_and_l28_equality(self):
        """An `__eq__` changes nothing itself; beside heapq it might not even reach what does, and those here do."""
        for name, node in nodes(ast.ImportFrom):
            self.assertNotEqual(node.module, "heapq", name)
        found = [(name, node) for name, node in nodes(ast.FunctionDef) if node.name == "__eq__"]
        self.assertTrue(found)
        for name, node in found:
            self.assertEqual([type(row) for row in node.body], [ast.Return], f"{name}, line {node.lineno}")
            for inner in ast.walk(node):
                if isinstance(inner, ast.Call):
                    self.assertIsInstance(inner.func, ast.Name, f"{name}, line {inner.lineno}")

    def test_l12_and_l15_names(self):
        for file in FILES:
            tree = tree_of(file)
            for name in bound_names(tree):
                self.assertFalse(name not in DUNDERS and hasattr(builtins, name), f"{file.name}: {name}")
                self.assertNotIn(name, BARRED_NAMES)
                self.assertRegex(name, r"\A(_|_?[A-Za-z][A-Za-z0-9_]*|__init__|__eq__)\Z")

    def test_l15_locals_are_not_called_like_imports_or_classes(self):
        for file in FILES:
            tree = tree_of(file)
            taken = {alias.name for node in imports_of(tree) for alias in node.names}
            taken |= {node.name for node in tree.body if isinstance(node, ast.ClassDef)}
            for node in ast.walk(tree):
                if isinstance(node, ast.FunctionDef):
                    stored = {n.id for n in ast.walk(node) if isinstance(n, ast.Name) and isinstance(n.ctx, ast.Store)}
                    stored |= {arg.arg for arg in node.args.args}
                    self.assertEqual(stored & taken, set(), f"{file.name}: {node.name}")

    def test_l18_and_l26_attributes(self):
        taken = set("items keys values pop update append clear extend insert remove reverse setdefault sort args".split())
        taken |= {"encode", "decode", "hex", "fromhex", "format", "is_integer", "conjugate", "bit_count"}
        for name, node in nodes(ast.Attribute):
            if isinstance(node.ctx, ast.Store):
                self.assertIsInstance(node.value, ast.Name, f"{name}, line {node.lineno}")
                self.assertNotIn(node.attr, taken, f"{name}, line {node.lineno}")
            self.assertFalse(isinstance(node.ctx, ast.Del), name)

    def test_l18_attributes_are_assigned(self):
        stored = {node.attr for _, node in nodes(ast.Attribute) if isinstance(node.ctx, ast.Store)}
        methods = {node.name for _, node in nodes(ast.FunctionDef)} | METHODS
        for name, node in nodes(ast.Attribute):
            self.assertIn(node.attr, stored | methods, f"{name}, line {node.lineno}")

    def test_l22_own_functions_get_what_they_take(self):
        takes = {}
        for _, node in nodes(ast.FunctionDef):
            if not node.name.startswith("__"):
                most = len(node.args.args)
                takes.setdefault(node.name, []).append((most - len(node.args.defaults), most))
        for name, node in nodes(ast.Call):
            if isinstance(node.func, ast.Name) and node.func.id in takes:
                many = len(node.args) + len(node.keywords)
                self.assertTrue(any(low <= many <= high for low, high in takes[node.func.id]), f"{name}: {node.lineno}")

    def test_l23_loops_do_not_change_what_they_go_over(self):
        changing = {"append", "clear", "extend", "insert", "pop", "remove", "reverse", "update", "add", "discard"}
        for name, node in nodes(ast.For):
            over = {ast.dump(part) for part in ast.walk(node.iter) if isinstance(part, (ast.Name, ast.Attribute))}
            for inner in [part for row in node.body for part in ast.walk(row)]:
                if isinstance(inner, ast.Call) and isinstance(inner.func, ast.Attribute) and inner.func.attr in changing:
                    self.assertNotIn(ast.dump(inner.func.value), over, f"{name}, line {inner.lineno}")
                if isinstance(inner, ast.Subscript) and isinstance(inner.ctx, (ast.Store, ast.Del)):
                    self.assertNotIn(ast.dump(inner.value), over, f"{name}, line {inner.lineno}")

    def test_l14_characters(self):
        for file in FILES:
            for byte in set(file.read_bytes()):
                self.assertTrue(byte == 10 or 32 <= byte <= 126, f"{file.name}: {byte}")

    def test_l17_words(self):
        for file in FILES:
            for token in tokenize.generate_tokens(io.StringIO(file.read_text()).readline):
                if token.type == tokenize.NAME:
                    self.assertNotIn(token.string, BARRED_WORDS, f"{file.name}, line {token.start[0]}")

    def test_l20_is(self):
        for name, node in nodes(ast.Compare):
            for sign, right in zip(node.ops, node.comparators):
                if isinstance(sign, (ast.Is, ast.IsNot)):
                    self.assertIsInstance(right, ast.Constant, name)
                    self.assertIn(right.value, (None, True, False))

    def test_l22_keywords_of_builtins(self):
        for name, node in nodes(ast.Call):
            if isinstance(node.func, ast.Name) and node.func.id in BUILTINS:
                for keyword in node.keywords:
                    self.assertIn(keyword.arg, ("key", "default", "reverse", "start", "strict"), name)

    def test_l24_sets_are_sorted_or_asked_at_once(self):
        allowed = set()
        for name, node in nodes(ast.Call):
            if isinstance(node.func, ast.Name) and node.func.id in ("sorted", "len") and not node.keywords:
                allowed.add((name, node.args[0].lineno, node.args[0].col_offset))
        for name, node in nodes((ast.Set, ast.SetComp)):
            self.assertIn((name, node.lineno, node.col_offset), allowed)

    def test_l25_methods(self):
        own = {node.name for _, node in nodes(ast.FunctionDef)}
        for name, node in nodes(ast.Call):
            if isinstance(node.func, ast.Attribute):
                self.assertIn(node.func.attr, METHODS | own, f"{name}, line {node.lineno}")
                self.assertEqual(node.keywords, [])

    def test_l27_exponents_and_strings(self):
        for name, node in nodes(ast.BinOp):
            if isinstance(node.op, ast.Pow):
                self.assertIsInstance(node.right, ast.Constant, f"{name}, line {node.lineno}")
                self.assertIn(node.right.value, range(65))
        for name, node in nodes(ast.Constant):
            if isinstance(node.value, str):
                self.assertNotIn(chr(37), node.value, name)


if __name__ == "__main__":
    unittest.main()
