"""The package keeps the rules of the language that it is written in, L1 to L28, or a part of it that is narrower."""

import ast
import builtins
import pathlib
import re
import unittest

import outsoonest

FOLDER = pathlib.Path(outsoonest.__file__).parent

# What the package uses of Python; the rules allow more of it.
NODES = (ast.Module, ast.Expr, ast.ImportFrom, ast.alias, ast.FunctionDef, ast.arguments, ast.arg, ast.ClassDef, ast.Assign,
         ast.AugAssign, ast.Return, ast.If, ast.While, ast.For, ast.Break, ast.Continue, ast.Pass, ast.Raise, ast.Try,
         ast.ExceptHandler, ast.Delete, ast.Call, ast.keyword, ast.Name, ast.Attribute, ast.Subscript, ast.Slice, ast.Tuple,
         ast.List, ast.Dict, ast.ListComp, ast.DictComp, ast.comprehension, ast.Compare, ast.BoolOp, ast.BinOp, ast.UnaryOp,
         ast.IfExp, ast.Constant, ast.expr_context, ast.boolop, ast.unaryop, ast.cmpop, ast.Add, ast.Sub, ast.Mult,
         ast.FloorDiv, ast.Mod, ast.BitAnd, ast.BitOr, ast.BitXor, ast.LShift, ast.RShift, ast.JoinedStr, ast.FormattedValue)

BUILTINS = ("len", "range", "enumerate", "zip", "min", "max", "sum", "abs", "sorted", "reversed", "int", "str", "bool", "list",
            "tuple", "dict", "isinstance", "ord", "any", "all", "divmod", "ValueError", "KeyError")
AT_ONCE = ("zip", "enumerate", "reversed", "range")
TAKERS = ("list", "tuple", "dict", "sorted", "sum", "any", "all", "enumerate", "zip", "min", "max")
METHODS = ("append", "clear", "copy", "count", "endswith", "extend", "find", "get", "index", "insert", "items", "join", "keys",
           "pop", "remove", "replace", "reverse", "setdefault", "split", "startswith", "update", "values", "bit_length")
CHANGING = ("append", "clear", "extend", "insert", "pop", "remove", "reverse", "setdefault", "update")
KEYWORDS = {"sorted": ("key", "reverse"), "min": ("key", "default"), "max": ("key", "default"), "sum": ("start",),
            "enumerate": ("start",), "zip": ("strict",)}

NEVER = ("register", "mro", "elements", "open", "input", "law", "version_info", "with_traceback", "add_note")
NO_NAMES = NEVER + ("attrgetter", "methodcaller", "gc", "os", "sys", "importlib", "builtins", "heapq", "math", "itertools")
NO_ATTRIBUTES = ("items", "keys", "values", "pop", "update", "append", "clear", "extend", "insert", "remove", "reverse",
                 "setdefault", "sort", "args", "encode", "decode", "hex", "fromhex", "format", "format_map", "bit_count",
                 "conjugate", "from_bytes", "is_integer", "to_bytes", "as_integer_ratio")
NO_WORDS = ("type", "typing", "typing_extensions", "enum", "Enum", "IntEnum", "StrEnum", "Flag", "IntFlag", "Generic",
            "Protocol", "ABC", "ABCMeta", "namedtuple", "NamedTuple", "TypedDict", "TYPE_CHECKING", "abstractmethod",
            "dataclass", "overload", "contextmanager")
NO_FILES = ("test", "tests", "testing", "site", "conftest", "sitecustomize", "usercustomize") + NO_NAMES


# Examples that are run elsewhere leave "_" among the builtins.
TAKEN = [word for word in dir(builtins) if word != "_"]


def files():
    return sorted(FOLDER.glob("*.py"))


def trees():
    return {path.stem: ast.parse(path.read_text("ascii")) for path in files()}


TREES = trees()


def defined(tree):
    """The names that a file defines itself."""
    names = [node.name for node in tree.body if isinstance(node, (ast.FunctionDef, ast.ClassDef))]
    return names + [target.id for node in tree.body if isinstance(node, ast.Assign) for target in node.targets]


def imported(tree):
    return {alias.name: node.module.split(".")[-1] for node in tree.body if isinstance(node, ast.ImportFrom)
            for alias in node.names}


def functions(tree):
    return [node for node in ast.walk(tree) if isinstance(node, ast.FunctionDef)]


def bound(function):
    """The parameters and local variables of a function."""
    names = [arg.arg for arg in function.args.args + function.args.kwonlyargs]
    return names + [node.id for node in ast.walk(function) if isinstance(node, ast.Name) and isinstance(node.ctx, ast.Store)]


def base_inits(tree):
    """Where a class calls the `__init__` of its base class, in its own, with its own object first."""
    found = []
    for one in [node for node in ast.walk(tree) if isinstance(node, ast.ClassDef)]:
        for method in [node for node in one.body if isinstance(node, ast.FunctionDef) and node.name == "__init__"]:
            for node in ast.walk(method):
                if (isinstance(node, ast.Call) and isinstance(node.func, ast.Attribute) and node.func.attr == "__init__"
                        and ast.unparse(node.func.value) in [ast.unparse(base) for base in one.bases]
                        and ast.unparse(node.args[0]) == "self"):
                    found.append(node.func)
    return found


def own_methods():
    return [node.name for tree in TREES.values() for one in ast.walk(tree) if isinstance(one, ast.ClassDef)
            for node in one.body if isinstance(node, ast.FunctionDef)]


class Files(unittest.TestCase):
    def test_folder(self):
        self.assertEqual([path.name for path in FOLDER.iterdir() if path not in files() and path.name != "__pycache__"], [])
        self.assertLessEqual(len(files()), 100)
        for path in files():
            name = path.stem
            self.assertTrue(name.isidentifier() and name == name.lower(), name)
            self.assertFalse(name in NO_FILES or name in TAKEN or name.startswith(("law_", "test_")), name)

    def test_characters_and_size(self):
        for path in files():
            text = path.read_bytes()
            self.assertEqual([octet for octet in text if octet != 10 and not 32 <= octet <= 126], [], path)
            lines = text.decode("ascii").split("\n")
            self.assertLessEqual(len(lines) - 1, 399, path)
            self.assertEqual([line for line in lines if len(line) > 120 or line != line.rstrip()], [], path)
            self.assertEqual(lines[-1], "", path)

    def test_functions_are_short_and_told(self):
        for name, tree in TREES.items():
            self.assertIsNotNone(ast.get_docstring(tree), name)
            for function in functions(tree):
                self.assertLessEqual(function.end_lineno - function.lineno + 1, 40, (name, function.name))
            for node in tree.body:
                if isinstance(node, (ast.FunctionDef, ast.ClassDef)):
                    self.assertIsNotNone(ast.get_docstring(node), (name, node.name))


class Imports(unittest.TestCase):
    def test_named_where_they_are_defined(self):
        for name, tree in TREES.items():
            for node in ast.walk(tree):
                if isinstance(node, ast.ImportFrom):
                    self.assertIn(node, tree.body)
                    self.assertEqual((node.level, node.module.split(".")[0], node.module.count(".")), (0, "outsoonest", 1))
                    self.assertEqual([alias for alias in node.names if alias.asname], [])
            for word, module in imported(tree).items():
                self.assertIn(word, defined(TREES[module]), (name, word))
                used = [node for node in ast.walk(tree) if isinstance(node, ast.Name) and node.id == word]
                self.assertTrue(used, (name, word, "is not used"))

    def test_imports_stand_first(self):
        for name, tree in TREES.items():
            kinds = [isinstance(node, ast.ImportFrom) for node in tree.body[1:]]
            self.assertEqual(kinds, sorted(kinds, reverse=True), name)

    def test_no_ring(self):
        left = {name: set(imported(tree).values()) for name, tree in TREES.items()}
        while left:
            free = [name for name, needs in left.items() if not needs & set(left)]
            self.assertTrue(free, left)
            for name in free:
                del left[name]


class Names(unittest.TestCase):
    def test_bound_once(self):
        for name, tree in TREES.items():
            words = defined(tree) + list(imported(tree))
            self.assertEqual(len(words), len(set(words)), name)
            for function in functions(tree):
                taken = set(bound(function)) & set([word for word in words if word in imported(tree)]
                                                   + [node.name for node in tree.body if isinstance(node, ast.ClassDef)])
                self.assertEqual(taken, set(), (name, function.name))

    def test_plain(self):
        for name, tree in TREES.items():
            words = set(defined(tree))
            for function in functions(tree):
                words |= set(bound(function))
            for word in words:
                self.assertFalse(word in TAKEN or word in NO_NAMES or word.startswith("__"), (name, word))
                self.assertFalse(word.startswith(("_wall", "_pe_", "_lay_", "_law_", "_sre", "_stub_")), (name, word))
            self.assertFalse([node for node in ast.walk(tree) if isinstance(node, ast.Name) and node.id == "_"
                              and isinstance(node.ctx, ast.Load)], name)

    def test_all_else_is_a_builtin(self):
        for name, tree in TREES.items():
            known = set(defined(tree)) | set(imported(tree)) | set(BUILTINS)
            inside = set()
            for function in functions(tree):
                inside |= set([id(node) for node in ast.walk(function)])
                local = known | set(bound(function))
                for node in ast.walk(function):
                    self.assertFalse(isinstance(node, ast.Name) and node.id not in local, (name, getattr(node, "id", "")))
            for node in ast.walk(tree):
                if isinstance(node, ast.Name) and id(node) not in inside:
                    self.assertIn(node.id, known, name)

    def test_attributes(self):
        methods = own_methods()
        for name, tree in TREES.items():
            for node in ast.walk(tree):
                if isinstance(node, ast.Attribute):
                    self.assertFalse(node.attr in NEVER or node.attr.startswith("_") and node not in base_inits(tree),
                                     (name, node.attr))
                    if isinstance(node.ctx, ast.Store):
                        self.assertNotIn(node.attr, NO_ATTRIBUTES)
                        self.assertNotIn(node.attr, methods)
            for word in methods:
                self.assertFalse(word != "__init__" and (word.startswith("_") or hasattr("", word) or hasattr([], word)), word)

    def test_attributes_that_are_read_are_assigned(self):
        parts = [node for tree in TREES.values() for node in ast.walk(tree)]
        assigned = [node.attr for node in parts if isinstance(node, ast.Attribute) and isinstance(node.ctx, ast.Store)]
        called = [id(node.func) for node in parts if isinstance(node, ast.Call)]
        for node in parts:
            if isinstance(node, ast.Attribute) and isinstance(node.ctx, ast.Load) and id(node) not in called:
                self.assertIn(node.attr, assigned)

    def test_words(self):
        for path in files():
            told = [node.value.value for node in ast.walk(TREES[path.stem]) if isinstance(node, ast.Expr)
                    and isinstance(node.value, ast.Constant)]
            for node in ast.walk(TREES[path.stem]):
                parts = [getattr(node, word, None) for word in ("id", "attr", "arg", "name", "value")]
                for part in [part for part in parts if isinstance(part, str)]:
                    self.assertTrue(part in told or not set(re.findall(r"\w+", part)) & set(NO_WORDS), (path.stem, part))
                    self.assertFalse("%" in part or part.endswith(("._", ".__")) or part[:2] == part[-2:] == "__"
                                     and part != "__init__", (path.stem, part))
            self.assertIsNone(re.search(r"\b(_wall|_WallAttr)\b|\t|\\x", path.read_text("ascii")), path.stem)


class Statements(unittest.TestCase):
    def test_nodes(self):
        for name, tree in TREES.items():
            for node in ast.walk(tree):
                self.assertIsInstance(node, NODES, (name, getattr(node, "lineno", 0)))
                if isinstance(node, ast.Constant):
                    self.assertIn(type(node.value), (int, str, bool, type(None)), name)
                if isinstance(node, ast.Expr):
                    self.assertTrue(isinstance(node.value, ast.Call) or isinstance(node.value, ast.Constant)
                                    and isinstance(node.value.value, str), (name, node.lineno))

    def test_module_level(self):
        plain = (ast.Constant, ast.Tuple, ast.Dict, ast.BinOp, ast.UnaryOp, ast.Name, ast.operator, ast.unaryop,
                 ast.expr_context)
        for name, tree in TREES.items():
            for node in tree.body[1:]:
                self.assertIsInstance(node, (ast.ImportFrom, ast.FunctionDef, ast.ClassDef, ast.Assign), name)
                if isinstance(node, ast.Assign):
                    self.assertEqual([type(target) for target in node.targets], [ast.Name])
                    self.assertTrue(all(isinstance(part, plain) for part in ast.walk(node.value)), name)
        self.assertEqual(len(TREES["__init__"].body), 1)

    def test_tables_are_read_alone(self):
        for name, tree in TREES.items():
            for node in tree.body:
                if isinstance(node, ast.Assign) and isinstance(node.value, ast.Dict):
                    self.assertFalse([part for value in node.value.values for part in ast.walk(value)
                                      if isinstance(part, (ast.Dict, ast.List))])
                    word = node.targets[0].id
                    self.assertFalse([other for other in TREES if word in imported(TREES[other])])
                    read = [id(part.value) for part in ast.walk(tree) if isinstance(part, ast.Subscript)]
                    read += [id(other) for part in ast.walk(tree) if isinstance(part, ast.Compare)
                             and isinstance(part.ops[0], (ast.In, ast.NotIn)) for other in part.comparators]
                    for part in ast.walk(tree):
                        if isinstance(part, ast.Name) and part.id == word and isinstance(part.ctx, ast.Load):
                            self.assertIn(id(part), read, (name, word))
                    self.assertNotIn(word, list(changed(tree)))

    def test_functions(self):
        for name, tree in TREES.items():
            for node in ast.walk(tree):
                if isinstance(node, ast.FunctionDef):
                    self.assertFalse(node.decorator_list or node.args.vararg or node.args.kwarg
                                     or node.args.posonlyargs or node.args.kwonlyargs, (name, node.name))
                    self.assertEqual([one for one in node.args.defaults if not isinstance(one, ast.Constant)], [], (name, node.name))
                    self.assertFalse([one for one in functions(node) if one is not node], (name, node.name))
                if isinstance(node, ast.ClassDef):
                    self.assertFalse(node.decorator_list or node.keywords or len(node.bases) > 1, (name, node.name))
                    for one in node.body[1:]:
                        self.assertIsInstance(one, ast.FunctionDef)
                        self.assertFalse(one.name.startswith("__") and one.name != "__init__")

    def test_strings_with_names_in_them(self):
        for name, tree in TREES.items():
            for node in ast.walk(tree):
                if isinstance(node, ast.FormattedValue):
                    self.assertIsInstance(node.value, ast.Name, (name, node.lineno))
                    self.assertTrue(node.conversion == -1 and node.format_spec is None, (name, node.lineno))

    def test_is_and_errors(self):
        errors = defined(TREES["errors"])
        for name, tree in TREES.items():
            for node in ast.walk(tree):
                if isinstance(node, ast.Compare):
                    for sign, other in zip(node.ops, node.comparators):
                        if isinstance(sign, (ast.Is, ast.IsNot)):
                            self.assertTrue(isinstance(other, ast.Constant) and other.value in (None, True, False))
                if isinstance(node, ast.Raise):
                    self.assertTrue(isinstance(node.exc, ast.Call) and node.exc.func.id in errors and node.cause is None, name)
                if isinstance(node, ast.ExceptHandler):
                    caught = node.type.elts if isinstance(node.type, ast.Tuple) else [node.type]
                    self.assertEqual([one.id for one in caught if one.id not in errors], [], name)
                if isinstance(node, ast.Try):
                    self.assertFalse(node.finalbody)

    def test_calls(self):
        methods = own_methods()
        for name, tree in TREES.items():
            for node in ast.walk(tree):
                if isinstance(node, ast.Call) and isinstance(node.func, ast.Attribute):
                    self.assertIn(node.func.attr, METHODS + tuple(methods), (name, node.lineno))
                    self.assertFalse(node.func.attr in METHODS and node.keywords, (name, node.lineno))
                elif isinstance(node, ast.Call):
                    self.assertIsInstance(node.func, ast.Name, (name, node.lineno))
                    words = [word.arg for word in node.keywords]
                    if node.func.id in BUILTINS:
                        self.assertFalse([word for word in words if word not in KEYWORDS.get(node.func.id, ())])

    def test_builtins_are_called(self):
        for name, tree in TREES.items():
            called = [id(node.func) for node in ast.walk(tree) if isinstance(node, ast.Call)]
            for node in ast.walk(tree):
                if isinstance(node, ast.Call) and getattr(node.func, "id", "") == "isinstance":
                    called.extend([id(part) for part in ast.walk(node.args[1])])
                if isinstance(node, ast.ClassDef):
                    called.extend([id(base) for base in node.bases])
            for node in ast.walk(tree):
                self.assertFalse(isinstance(node, ast.Name) and node.id in BUILTINS and id(node) not in called,
                                 (name, getattr(node, "lineno", 0)))

    def test_iterated_at_once(self):
        for name, tree in TREES.items():
            taken = []
            for node in ast.walk(tree):
                if isinstance(node, (ast.For, ast.comprehension)):
                    taken.append(id(node.iter))
                if isinstance(node, ast.Call) and getattr(node.func, "id", "") in TAKERS and len(node.args) > 0:
                    taken.extend([id(arg) for arg in (node.args[:1] if node.func.id not in ("zip",) else node.args)])
                if isinstance(node, ast.Call) and getattr(node.func, "id", "") == "reversed":
                    taken.extend([id(arg) for arg in node.args if getattr(arg.func, "id", "") == "range"]
                                 if isinstance(node.args[0], ast.Call) else [])
            for node in ast.walk(tree):
                if isinstance(node, ast.Call):
                    word = getattr(node.func, "id", getattr(node.func, "attr", ""))
                    if word in AT_ONCE + ("items", "keys", "values"):
                        self.assertIn(id(node), taken, (name, node.lineno))

    def test_what_is_iterated_is_not_changed(self):
        for name, tree in TREES.items():
            for node in ast.walk(tree):
                if isinstance(node, ast.For):
                    over = [ast.unparse(part) for part in iterated(node.iter)]
                    for row in node.body:
                        self.assertEqual(set(over) & set(changed(row)), set(), (name, node.lineno))


def iterated(node):
    """What a loop goes over by itself, through zip and the like."""
    if isinstance(node, ast.Call) and getattr(node.func, "id", "") in AT_ONCE:
        return [part for arg in node.args for part in iterated(arg)]
    if isinstance(node, ast.Call) and isinstance(node.func, ast.Attribute):
        return iterated(node.func.value)
    return [node] if isinstance(node, (ast.Name, ast.Attribute, ast.Subscript)) else []


def changed(row):
    """What statements change: by items, by a method that changes, or by being deleted."""
    for node in ast.walk(row):
        if isinstance(node, ast.Subscript) and isinstance(node.ctx, (ast.Store, ast.Del)):
            yield ast.unparse(node.value)
        if isinstance(node, ast.Call) and isinstance(node.func, ast.Attribute) and node.func.attr in CHANGING:
            yield ast.unparse(node.func.value)


if __name__ == "__main__":
    unittest.main()
