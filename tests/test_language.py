"""The package's files keep rules of the Python subset for this program, as far as they can be seen from its code."""

import ast
import builtins
import pathlib
import re
import unittest

PACKAGE = pathlib.Path(__file__).resolve().parent.parent / "lamprounds"
LIBRARY = {
    "heapq": {"heappush", "heappop", "heapify", "heapreplace", "heappushpop"},
    "math": {"gcd", "lcm", "isqrt", "comb", "perm", "factorial"},
    "itertools": {"product", "combinations", "permutations", "chain", "accumulate", "pairwise", "islice",
                  "zip_longest"},
    "collections": {"defaultdict"},
}
BUILTINS = set(
    "len range enumerate zip min max sum abs sorted reversed int str bool bytes list tuple dict set frozenset "
    "isinstance ord repr any all divmod pow getattr hasattr setattr iter next map super property staticmethod "
    "classmethod Exception ValueError TypeError KeyError IndexError LookupError ZeroDivisionError ArithmeticError "
    "OverflowError RuntimeError NotImplementedError AttributeError StopIteration NotImplemented".split())
METHODS = set(
    "append clear copy count endswith extend find get index insert isalnum isalpha isdigit islower isspace isupper "
    "items join keys ljust lower lstrip partition pop remove replace reverse rfind rjust rpartition rsplit rstrip "
    "setdefault split splitlines startswith strip update upper values zfill bit_length sort title capitalize "
    "swapcase casefold center expandtabs removeprefix removesuffix rindex isascii isdecimal isnumeric istitle "
    "isidentifier isprintable translate format encode decode hex add discard".split())
SPECIAL = set(
    "init eq repr str len enter exit call iter lt le gt ge ne add sub mul floordiv mod pow and or xor lshift rshift "
    "neg pos invert abs bool contains getitem setitem".split())
BARRED_WORDS = re.compile(
    r"\b(type|typing|typing_extensions|enum|Enum|IntEnum|StrEnum|Flag|IntFlag|Generic|Protocol|ABC|ABCMeta|namedtuple"
    r"|NamedTuple|TypedDict|TYPE_CHECKING|abstractmethod)\b|dataclass|overload|contextmanager|_wall|_WallAttr")
BARRED_CODE = (ast.Global, ast.AsyncFunctionDef, ast.AsyncFor, ast.AsyncWith, ast.Await, ast.Import, ast.Div,
               ast.MatMult, ast.GeneratorExp)
DEFINED = {
    "errors": {"WrongValue", "InvalidText", "InvalidName", "InvalidIndex", "InvalidLevels", "InvalidNumber",
               "InvalidWish", "NotRound", "NotLot", "InvalidLamps", "InvalidRounds", "InvalidSteps", "InvalidPlan",
               "InvalidChanges", "InvalidWishes", "WrongName", "UnknownName", "InUse", "NotPossible", "OtherLevels",
               "TooMany", "TooFar", "NothingToUndo", "Broken"},
    "rounds": {"Round"},
    "doing": {"then", "undone", "often", "level_after", "order"},
    "walks": {"walked", "steps", "least_walk"},
    "likeness": {"is_alike", "alike", "root", "commute"},
    "lots": {"Lot"},
    "forms": {"form", "cosets", "makes", "plan", "doing", "same", "within", "needless"},
    "mends": {"holds", "mends"},
    "streets": {"Street"},
    "consoles": {"Console"},
    "libraries": {"Library"},
    "checker": {"accepts"},
    "certificates": {"certify_made", "certify_same", "certify_alike", "certify_root", "certify_steps"},
}
METHODS_OF_CLASSES = {
    ("rounds", "Round"): {"__init__", "read", "levels", "lamps", "end", "text", "__eq__", "__len__", "__str__",
                          "__repr__", "__bool__"},
    ("lots", "Lot"): {"__init__", "read", "rounds", "levels", "text", "changed", "__eq__", "__len__", "__str__",
                      "__repr__"},
    ("streets", "Street"): {"__init__", "do", "undo", "levels", "place", "lamps", "done", "trip", "__len__", "__bool__",
                            "trial", "tried"},
    ("consoles", "Console"): {"__init__", "do", "names"},
    ("libraries", "Library"): {"__init__", "__setitem__", "__getitem__", "__iter__", "remove", "wish", "lift", "undo",
                               "names", "wishes", "changes", "__contains__", "__len__", "__bool__", "trial", "tried"},
}


def files():
    return sorted(PACKAGE.rglob("*.py"))


def parsed():
    return {path: ast.parse(path.read_text(encoding="ascii")) for path in files()}


def definitions(tree):
    return {node.name for node in tree.body if isinstance(node, (ast.FunctionDef, ast.ClassDef))}


def bound_names(tree):
    """All names that a file gives to something, those of attributes and methods excepted."""
    for node in ast.walk(tree):
        if isinstance(node, ast.Name) and not isinstance(node.ctx, ast.Load):
            yield node.id
        elif isinstance(node, ast.arg):
            yield node.arg
        elif isinstance(node, ast.ExceptHandler) and node.name:
            yield node.name
        elif isinstance(node, ast.alias):
            yield node.asname or node.name
    for name in definitions(tree):
        yield name


class Files(unittest.TestCase):
    def test_only_python_files_with_plain_names(self):
        for path in PACKAGE.rglob("*"):
            if "__pycache__" in path.parts:
                continue
            with self.subTest(path=path):
                self.assertTrue(path.is_dir() or path.suffix == ".py")
                self.assertRegex(path.stem, r"^([a-z][a-z0-9_]*|__init__|__main__)$")
                self.assertNotRegex(path.stem, r"^(law_.*|tests?|testing|test_.*|site|conftest)$")
        self.assertTrue((PACKAGE / "__init__.py").is_file())

    def test_signs_and_sizes(self):
        for path in files():
            text = path.read_bytes().decode("latin-1")
            with self.subTest(path=path):
                self.assertRegex(text, r"^[ -~\n]*$")
                self.assertLessEqual(text.count("\n"), 399)
                self.assertLessEqual(max(len(line) for line in text.split("\n")), 120)

    def test_functions_are_short(self):
        for path, tree in parsed().items():
            for node in ast.walk(tree):
                if isinstance(node, ast.FunctionDef):
                    with self.subTest(path=path, function=node.name):
                        self.assertLessEqual(node.end_lineno - node.lineno + 1, 40)


class Code(unittest.TestCase):
    def test_module_level(self):
        allowed = (ast.ImportFrom, ast.FunctionDef, ast.ClassDef, ast.Assign)
        for path, tree in parsed().items():
            for node in tree.body[1:]:
                with self.subTest(path=path, line=node.lineno):
                    self.assertIsInstance(node, allowed)
            self.assertIsNotNone(ast.get_docstring(tree), path)

    def test_imports(self):
        trees = parsed()
        for path, tree in trees.items():
            for node in ast.walk(tree):
                if not isinstance(node, ast.ImportFrom):
                    continue
                with self.subTest(path=path, module=node.module):
                    self.assertEqual(node.level, 0)
                    names = {alias.name for alias in node.names}
                    if node.module in LIBRARY:
                        self.assertLessEqual(names, LIBRARY[node.module])
                        continue
                    package, _, module = node.module.partition(".")
                    self.assertEqual(package, "lamprounds")
                    tree_there = trees[PACKAGE.joinpath(*module.split(".")).with_suffix(".py")]
                    values = {target.id for one in tree_there.body if isinstance(one, ast.Assign)
                              for target in one.targets}
                    self.assertLessEqual(names, definitions(tree_there) | values)

    def test_no_two_files_import_from_each_other(self):
        below = {path.stem: {node.module.partition(".")[2] for node in ast.walk(tree)
                             if isinstance(node, ast.ImportFrom) and node.module.startswith("lamprounds.")}
                 for path, tree in parsed().items()}
        while below:
            first = [name for name, others in below.items() if not others & set(below)]
            self.assertTrue(first, below)
            below = {name: others for name, others in below.items() if name not in first}

    def test_no_local_name_is_that_of_an_import_or_a_class(self):
        for path, tree in parsed().items():
            taken = {alias.name for node in ast.walk(tree) if isinstance(node, ast.ImportFrom) for alias in node.names}
            taken |= {node.name for node in tree.body if isinstance(node, ast.ClassDef)}
            given = {node.id for node in ast.walk(tree)
                     if isinstance(node, ast.Name) and not isinstance(node.ctx, ast.Load)}
            given |= {node.arg for node in ast.walk(tree) if isinstance(node, ast.arg)}
            with self.subTest(path=path):
                self.assertEqual(given & taken, set())

    def test_each_import_is_used(self):
        for path, tree in parsed().items():
            used = {node.id for node in ast.walk(tree) if isinstance(node, ast.Name)}
            for node in ast.walk(tree):
                if isinstance(node, ast.ImportFrom):
                    for alias in node.names:
                        with self.subTest(path=path, name=alias.name):
                            self.assertIn(alias.name, used)

    def test_barred_code(self):
        for path, tree in parsed().items():
            for node in ast.walk(tree):
                with self.subTest(path=path, node=node):
                    self.assertNotIsInstance(node, BARRED_CODE)
                    if isinstance(node, ast.Constant):
                        self.assertNotIsInstance(node.value, (float, complex))
                        if isinstance(node.value, str):
                            self.assertNotIn("%", node.value)

    def test_names(self):
        builtins_of_python = set(dir(builtins))
        for path, tree in parsed().items():
            given = set(bound_names(tree))
            with self.subTest(path=path):
                self.assertEqual(given & builtins_of_python, set())
                for name in given - {"_"}:
                    self.assertRegex(name, r"^_?[A-Za-z][A-Za-z0-9_]*$")
            for node in ast.walk(tree):
                if isinstance(node, ast.Name) and node.id in builtins_of_python:
                    with self.subTest(path=path, line=node.lineno):
                        self.assertIn(node.id, BUILTINS)

    def test_called_methods(self):
        own = {node.name for tree in parsed().values() for node in ast.walk(tree)
               if isinstance(node, ast.FunctionDef)}
        for path, tree in parsed().items():
            for node in ast.walk(tree):
                if isinstance(node, ast.Call) and isinstance(node.func, ast.Attribute):
                    with self.subTest(path=path, line=node.lineno):
                        self.assertIn(node.func.attr, METHODS | own)

    def test_double_underscore_names(self):
        for path, tree in parsed().items():
            for node in ast.walk(tree):
                if isinstance(node, ast.FunctionDef) and node.name.startswith("__"):
                    with self.subTest(path=path, name=node.name):
                        plain = node.name.strip("_")
                        self.assertTrue(plain in SPECIAL or plain[:1] in ("r", "i") and plain[1:] in SPECIAL)

    def test_barred_words(self):
        for path, tree in parsed().items():
            docstrings = {ast.get_docstring(node, clean=False) for node in ast.walk(tree)
                          if isinstance(node, (ast.Module, ast.ClassDef, ast.FunctionDef))}
            words = [node.value for node in ast.walk(tree)
                     if isinstance(node, ast.Constant) and isinstance(node.value, str)]
            words = [word for word in words if word not in docstrings]
            words.extend(bound_names(tree))
            words.extend(node.attr for node in ast.walk(tree) if isinstance(node, ast.Attribute))
            for word in words:
                with self.subTest(path=path, word=word):
                    self.assertNotRegex(word, BARRED_WORDS)


    def test_is_and_powers(self):
        for path, tree in parsed().items():
            for node in ast.walk(tree):
                with self.subTest(path=path, line=getattr(node, "lineno", 0)):
                    self.assertNotIsInstance(node, ast.Pow)
                    if isinstance(node, ast.Compare) and any(isinstance(op, (ast.Is, ast.IsNot)) for op in node.ops):
                        self.assertEqual(len(node.ops), 1)
                        self.assertIsInstance(node.comparators[0], ast.Constant)

    def test_python_errors_are_not_caught(self):
        own = definitions(ast.parse((PACKAGE / "errors.py").read_text(encoding="ascii")))
        for path, tree in parsed().items():
            for node in ast.walk(tree):
                if isinstance(node, ast.ExceptHandler):
                    caught = {name.id for name in ast.walk(node.type) if isinstance(name, ast.Name)}
                    with self.subTest(path=path, line=node.lineno):
                        self.assertTrue(caught)
                        self.assertLessEqual(caught, own)

    def test_ends_of_with_statements(self):
        for path, tree in parsed().items():
            for node in ast.walk(tree):
                if not isinstance(node, ast.FunctionDef) or node.name != "__exit__":
                    continue
                self.assertEqual([arg.arg for arg in node.args.args], ["self", "kind", "value", "trace"])
                read = {name.id for name in ast.walk(node) if isinstance(name, ast.Name)}
                self.assertEqual(read & {"value", "trace"}, set())
                inner = [part for part in ast.walk(node) if isinstance(part, (ast.stmt, ast.Call)) and part is not node]
                for part in inner:
                    with self.subTest(path=path, line=part.lineno):
                        self.assertIsInstance(part, (ast.Assign, ast.If))
                        if isinstance(part, ast.If):
                            self.assertIn(ast.unparse(part.test), ("kind is None", "kind is not None"))

    def test_classes_with_items(self):
        for path, tree in parsed().items():
            for node in ast.walk(tree):
                if isinstance(node, ast.ClassDef):
                    own = {part.name for part in node.body if isinstance(part, ast.FunctionDef)}
                    with self.subTest(path=path, name=node.name):
                        self.assertTrue("__getitem__" not in own or "__iter__" in own)
                        self.assertNotIn("keys", own)


class Interface(unittest.TestCase):
    def test_defined_where_it_is_listed(self):
        trees = {path.stem: tree for path, tree in parsed().items()}
        for module, names in DEFINED.items():
            with self.subTest(module=module):
                self.assertLessEqual(names, definitions(trees[module]))

    def test_methods_stand_in_their_class(self):
        trees = {path.stem: tree for path, tree in parsed().items()}
        for (module, name), methods in METHODS_OF_CLASSES.items():
            found = [node for node in trees[module].body if isinstance(node, ast.ClassDef) and node.name == name]
            own = {node.name for node in found[0].body if isinstance(node, ast.FunctionDef)}
            with self.subTest(name=name):
                self.assertLessEqual(methods, own)


if __name__ == "__main__":
    unittest.main()
