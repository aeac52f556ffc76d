"""The rules of LANGUAGE.md that can be checked mechanically, over the files of the package."""

import ast
import builtins
import io
import pathlib
import re
import tokenize
import unittest
import warnings

PACKAGE = pathlib.Path(__file__).resolve().parent.parent / "treequill"
FILES = sorted(PACKAGE.rglob("*.py"))
BUILTINS = set(
    "len range enumerate zip min max sum abs sorted reversed int str bool bytes list tuple dict set frozenset"
    " isinstance ord repr any all divmod iter next map super Exception ValueError TypeError KeyError IndexError"
    " LookupError ZeroDivisionError ArithmeticError OverflowError RuntimeError NotImplementedError AttributeError"
    " StopIteration NotImplemented property staticmethod classmethod".split()
)
METHODS = set(
    "append clear copy count endswith extend find get index insert isalnum isalpha isdigit islower isspace isupper"
    " items join keys ljust lower lstrip partition pop remove replace reverse rfind rjust rpartition rsplit rstrip"
    " setdefault split splitlines startswith strip update upper values zfill bit_length title capitalize swapcase"
    " casefold center expandtabs removeprefix removesuffix rindex isascii isdecimal isnumeric istitle isidentifier"
    " isprintable translate maketrans encode decode hex fromhex to_bytes from_bytes add discard sort".split()
)
SPECIAL = set(
    "__init__ __eq__ __repr__ __str__ __len__ __enter__ __exit__ __call__ __iter__ __getitem__ __setitem__"
    " __contains__ __lt__ __le__ __gt__ __ge__ __ne__ __bool__".split()
)
NOWHERE = set("register mro elements open input law version_info with_traceback add_note".split())
NO_VARIABLES = set(
    "attrgetter breakpoint builtins compile copyright credits delattr dir eval exec exit gc getattr globals hasattr"
    " help id importlib license locals methodcaller os quit setattr super type vars sys".split()
)
NO_WORDS = re.compile(
    r"\b(type|typing|typing_extensions|enum|Enum|IntEnum|StrEnum|Flag|IntFlag|Generic|Protocol|ABC|ABCMeta"
    r"|namedtuple|NamedTuple|TypedDict|TYPE_CHECKING|abstractmethod)\b|dataclass|overload|contextmanager"
)
NOT_AT_ALL = re.compile(r"\(type\)|Meta|metaclass=|_wall|_WallAttr")
STATEMENTS = (ast.Expr, ast.ImportFrom, ast.FunctionDef, ast.ClassDef, ast.Assign)
LIBRARY = {
    "heapq": {"heappush", "heappop", "heapify", "heapreplace", "heappushpop"},
    "math": {"gcd", "lcm", "isqrt", "comb", "perm", "factorial"},
    "itertools": {"product", "combinations", "permutations"},
}


def own_names(tree):
    """Return all names that a file gives a meaning: those that it assigns, defines, imports or takes."""
    names = set()
    for node in ast.walk(tree):
        if isinstance(node, ast.Name) and not isinstance(node.ctx, ast.Load):
            names.add(node.id)
        elif isinstance(node, (ast.FunctionDef, ast.ClassDef, ast.ExceptHandler)) and node.name:
            names.add(node.name)
        elif isinstance(node, ast.arg):
            names.add(node.arg)
        elif isinstance(node, ast.alias):
            names.add(node.asname or node.name)
    return names


def methods_of(tree):
    return [
        (made, node) for made in ast.walk(tree) if isinstance(made, ast.ClassDef)
        for node in made.body if isinstance(node, ast.FunctionDef)
    ]


class LanguageTest(unittest.TestCase):
    def setUp(self):
        self.texts = {path: path.read_text(encoding="utf-8") for path in FILES}
        self.trees = {path: ast.parse(text) for path, text in self.texts.items()}

    def each_node(self):
        for path, tree in self.trees.items():
            for node in ast.walk(tree):
                yield f"{path.name}:{getattr(node, 'lineno', 0)}", node

    def test_files(self):
        self.assertTrue(FILES)
        for path in PACKAGE.rglob("*"):
            if "__pycache__" not in path.parts and path.is_file():
                self.assertRegex(path.name, r"\A[a-z_0-9]+\.py\Z")

    def test_sizes_and_characters(self):
        for path, text in self.texts.items():
            lines = text.split("\n")
            self.assertLessEqual(len(lines), 400, path.name)
            self.assertLessEqual(max(len(line) for line in lines), 120, path.name)
            self.assertRegex(text, r"\A[ -~\n]*\Z", path.name)
        for place, node in self.each_node():
            if isinstance(node, ast.FunctionDef):
                self.assertLessEqual(node.end_lineno - node.lineno + 1, 40, place)

    def test_no_warnings(self):
        with warnings.catch_warnings():
            warnings.simplefilter("error")
            for path, text in self.texts.items():
                compile(text, path.name, "exec")

    def test_module_level(self):
        for path, tree in self.trees.items():
            bound = []
            for node in tree.body:
                self.assertIsInstance(node, STATEMENTS, path.name)
                if isinstance(node, ast.Assign):
                    self.assertEqual([type(target) for target in node.targets], [ast.Name])
                    bound.append(node.targets[0].id)
                    self.assert_plain(node.value, path.name)
                elif isinstance(node, ast.Expr):
                    self.assertIsInstance(node.value, ast.Constant)
                elif isinstance(node, ast.ImportFrom):
                    bound += [alias.asname or alias.name for alias in node.names]
                else:
                    bound.append(node.name)
            self.assertEqual(len(bound), len(set(bound)), path.name)

    def assert_plain(self, node, told):
        for part in ast.walk(node):
            self.assertNotIsInstance(part, (ast.Call, ast.ListComp, ast.DictComp, ast.Set, ast.Lambda), told)
        for part in ast.walk(node):
            items = getattr(part, "elts", []) + getattr(part, "values", [])
            self.assertFalse([item for item in items if isinstance(item, (ast.List, ast.Dict))], told)

    def test_imports(self):
        files = {"treequill." + path.stem: tree for path, tree in self.trees.items()}
        for place, node in self.each_node():
            self.assertNotIsInstance(node, ast.Import, place)
            if isinstance(node, ast.ImportFrom):
                self.assertEqual(node.level, 0, place)
                for alias in node.names:
                    if node.module in LIBRARY:
                        self.assertIn(alias.name, LIBRARY[node.module], place)
                    else:
                        defined = [getattr(row, "name", None) for row in files[node.module].body]
                        defined += [row.targets[0].id for row in files[node.module].body if isinstance(row,
                            ast.Assign)]
                        self.assertIn(alias.name, defined, place)

    def test_no_imports_in_a_circle(self):
        needs = {
            "treequill." + path.stem: [row.module for row in tree.body if isinstance(row, ast.ImportFrom)]
            for path, tree in self.trees.items()
        }
        while needs:
            free = [name for name in needs if not [other for other in needs[name] if other in needs]]
            self.assertTrue(free, needs)
            for name in free:
                del needs[name]

    def test_statements_and_expressions(self):
        barred = (
            ast.Global, ast.AsyncFunctionDef, ast.AsyncFor, ast.AsyncWith, ast.Await, ast.Div,
            getattr(ast, "TryStar", ast.Global),
        )
        for place, node in self.each_node():
            self.assertNotIsInstance(node, barred, place)
            if isinstance(node, ast.Constant):
                self.assertNotIsInstance(node.value, (float, complex, type(...)), place)
            if isinstance(node, ast.Compare):
                for op, right in zip(node.ops, node.comparators):
                    if isinstance(op, (ast.Is, ast.IsNot)) and not isinstance(right, ast.Constant):
                        self.assertIsInstance(right, (ast.Name, ast.Attribute, ast.Subscript), place)
            if isinstance(node, ast.Call) and isinstance(node.func, ast.Name):
                if node.func.id in ("any", "all", "min", "max", "sum", "sorted"):
                    self.assertFalse([part for part in node.args if isinstance(part, ast.GeneratorExp)], place)

    def test_builtins(self):
        for path, tree in self.trees.items():
            own = own_names(tree)
            for node in ast.walk(tree):
                if isinstance(node, ast.Name) and node.id not in own and hasattr(builtins, node.id):
                    self.assertIn(node.id, BUILTINS, path.name)
            for name in own - {made.name for _, made in methods_of(tree)}:
                self.assertFalse(hasattr(builtins, name), f"{path.name}: {name}")

    def test_names(self):
        for path, tree in self.trees.items():
            for name in own_names(tree):
                self.assertNotIn(name, NO_VARIABLES, path.name)
                if name not in SPECIAL:
                    self.assertRegex(name, r"\A(_?[A-Za-z][A-Za-z0-9_]*|_)\Z", path.name)
            for made, method in methods_of(tree):
                if method.name.startswith("__"):
                    self.assertIn(method.name, SPECIAL, path.name)
            names = set(re.findall(r"\w+", " ".join(
                token.string for token in tokenize.generate_tokens(io.StringIO(self.texts[path]).readline)
                if token.type == tokenize.NAME
            )))
            self.assertFalse(names & NOWHERE, path.name)

    def test_no_local_name_of_an_import_or_a_class(self):
        for path, tree in self.trees.items():
            taken = {alias.name for node in tree.body if isinstance(node, ast.ImportFrom) for alias in node.names}
            taken |= {node.name for node in tree.body if isinstance(node, ast.ClassDef)}
            for function in ast.walk(tree):
                if isinstance(function, ast.FunctionDef):
                    inner = own_names(function) - {function.name}
                    self.assertFalse(inner & taken, f"{path.name}: {function.name}")

    def test_methods_and_attributes_have_different_names(self):
        methods, attributes = set(), set()
        for tree in self.trees.values():
            methods |= {method.name for _, method in methods_of(tree)}
            attributes |= {
                node.attr for node in ast.walk(tree)
                if isinstance(node, ast.Attribute) and isinstance(node.ctx, ast.Store)
            }
        self.assertFalse(methods & attributes)
        self.assertFalse(attributes & {
            "items", "keys", "values", "pop", "update", "append", "clear", "extend", "insert", "remove", "reverse",
            "setdefault", "sort", "args", "encode", "decode", "hex", "fromhex", "format", "real", "imag", "numerator",
        })

    def test_attributes_are_given_through_local_names(self):
        """L18: ahead of an attribute that is assigned stands self, a parameter or a local name, and nothing else."""
        for path, tree in self.trees.items():
            for function in self.functions_of(tree):
                local = {part.arg for part in ast.walk(function.args) if isinstance(part, ast.arg)}
                local |= {
                    part.id for part in ast.walk(function)
                    if isinstance(part, ast.Name) and isinstance(part.ctx, ast.Store)
                }
                for part in ast.walk(function):
                    if isinstance(part, ast.Attribute) and not isinstance(part.ctx, ast.Load):
                        told = f"{path.name}:{part.lineno}"
                        self.assertIsInstance(part.value, ast.Name, told)
                        self.assertIn(part.value.id, local, told)

    def functions_of(self, tree):
        return [node for node in ast.walk(tree) if isinstance(node, ast.FunctionDef)]

    def test_items_of_tables_are_not_assigned(self):
        """L15: what stands at the top of a file is only read."""
        for path, tree in self.trees.items():
            taken = {row.targets[0].id for row in tree.body if isinstance(row, ast.Assign)}
            taken |= {alias.asname or alias.name for row in tree.body if isinstance(row, ast.ImportFrom)
                for alias in row.names}
            for function in self.functions_of(tree):
                for part in ast.walk(function):
                    if isinstance(part, ast.Subscript) and not isinstance(part.ctx, ast.Load):
                        self.assertNotIn(getattr(part.value, "id", ""), taken, f"{path.name}:{part.lineno}")
                    if isinstance(part, ast.Name) and not isinstance(part.ctx, ast.Load):
                        self.assertNotIn(part.id, taken, f"{path.name}:{part.lineno}")

    def test_what_is_iterated_on_the_spot(self):
        """zip, reversed and the like stand in loops, comprehensions, and calls that take them at once."""
        for place, node in self.each_node():
            allowed = []
            if isinstance(node, (ast.For, ast.comprehension)):
                allowed = [node.iter]
            elif isinstance(node, ast.Call) and isinstance(node.func, ast.Name):
                if node.func.id in ("list", "tuple", "dict", "sorted", "sum", "any", "all", "enumerate", "zip",
                    "reversed"):
                    allowed = node.args[:1]
            for part in ast.iter_child_nodes(node):
                if isinstance(part, ast.Call) and isinstance(part.func, ast.Name):
                    if part.func.id in ("zip", "enumerate", "reversed", "range", "map"):
                        self.assertIn(part, allowed, place)

    def test_methods_of_builtin_values(self):
        own = {method.name for tree in self.trees.values() for _, method in methods_of(tree)}
        for place, node in self.each_node():
            if isinstance(node, ast.Call) and isinstance(node.func, ast.Attribute):
                self.assertIn(node.func.attr, METHODS | own, place)

    def test_strings_and_words(self):
        for path, text in self.texts.items():
            self.assertIsNone(NOT_AT_ALL.search(text), path.name)
            for token in tokenize.generate_tokens(io.StringIO(text).readline):
                if token.type == tokenize.COMMENT:
                    continue
                self.assertIsNone(NO_WORDS.search(token.string), f"{path.name}:{token.start}")
                if token.type == tokenize.STRING:
                    self.assertNotIn(chr(37), token.string, f"{path.name}:{token.start}")
                    self.assertIsNone(re.search(r"\\[^nt\\'\"\n]", token.string.replace("\\\\", "")), path.name)

    def test_a_class_with_items_is_not_iterated_over(self):
        for tree in self.trees.values():
            for made in ast.walk(tree):
                if isinstance(made, ast.ClassDef):
                    names = [row.name for row in made.body if isinstance(row, ast.FunctionDef)]
                    self.assertEqual(len(names), len(set(names)), made.name)
                    if "__getitem__" in names:
                        self.assertIn("__iter__", names, made.name)


if __name__ == "__main__":
    unittest.main()
