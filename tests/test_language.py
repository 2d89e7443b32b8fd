"""The rules of LANGUAGE.md that a short program can check, over the files of the package."""

import ast
import builtins
import unittest
import warnings
from pathlib import Path

FOLDER = Path(__file__).resolve().parent.parent / "nestcall"
LIBRARY = {
    "heapq": {"heappush", "heappop", "heapify", "heapreplace", "heappushpop"},
    "math": {"gcd", "lcm", "isqrt", "comb", "perm", "factorial"},
    "itertools": {"product", "combinations", "permutations", "chain", "accumulate", "pairwise", "islice",
                  "zip_longest"},
    "collections": {"defaultdict", "deque"},
}
BUILTINS = set(
    "len range enumerate zip min max sum abs sorted reversed int str bool list tuple dict set isinstance ord repr"
    " any all divmod pow getattr hasattr setattr iter next map type super property staticmethod classmethod"
    " Exception ValueError TypeError KeyError IndexError LookupError ZeroDivisionError ArithmeticError OverflowError"
    " RuntimeError NotImplementedError AttributeError StopIteration NotImplemented".split())
METHODS = set(
    "append clear copy count endswith extend find get index insert isalnum isalpha isdigit islower isspace isupper"
    " items join keys ljust lower lstrip partition pop remove replace reverse rfind rjust rpartition rsplit rstrip"
    " setdefault split splitlines startswith strip update upper values zfill bit_length sort add discard"
    " title capitalize swapcase casefold center expandtabs removeprefix removesuffix popleft appendleft"
    " isascii isdecimal isnumeric isprintable __init__".split())
SPECIAL = set(
    "__init__ __eq__ __repr__ __str__ __len__ __enter__ __exit__ __call__ __iter__ __lt__ __le__ __gt__ __ge__".split())
BARRED = set(
    "typing typing_extensions enum Enum IntEnum Flag Protocol Generic ABC namedtuple NamedTuple eval exec open input"
    " globals locals vars dir id hash compile register mro law elements".split())
FORBIDDEN = (
    ast.AsyncFunctionDef, ast.AsyncFor, ast.AsyncWith, ast.Await, ast.Import, ast.Global, ast.Div, ast.MatMult,
    ast.Starred, ast.Set, ast.SetComp, ast.AnnAssign,
)
PLAIN = (ast.Constant, ast.Tuple, ast.List, ast.Dict, ast.Name, ast.Load, ast.UnaryOp, ast.USub)


def files():
    return sorted(FOLDER.glob("*.py"))


def tree_of(file):
    return ast.parse(file.read_text(encoding="ascii"))


def all_nodes():
    for file in files():
        for node in ast.walk(tree_of(file)):
            yield file, node


def own_names():
    """The names of all functions, methods and classes of the package."""
    kinds = (ast.FunctionDef, ast.ClassDef)
    return {node.name for _, node in all_nodes() if isinstance(node, kinds)}


def bound_names(tree):
    """All names that a file binds, anywhere."""
    names = set()
    for node in ast.walk(tree):
        if isinstance(node, (ast.FunctionDef, ast.ClassDef)):
            names.add(node.name)
        elif isinstance(node, ast.alias):
            names.add(node.asname or node.name)
        elif isinstance(node, ast.arg):
            names.add(node.arg)
        elif isinstance(node, ast.Name) and isinstance(node.ctx, ast.Store):
            names.add(node.id)
        elif isinstance(node, ast.ExceptHandler) and node.name:
            names.add(node.name)
    return names


class FilesTest(unittest.TestCase):
    def test_folder(self):
        names = {path.name for path in FOLDER.iterdir() if path.name != "__pycache__"}
        self.assertEqual(names, {file.name for file in files()})
        self.assertIn("__init__.py", names)
        for name in names:
            self.assertRegex(name, r"\A[a-z0-9_]+\.py\Z")

    def test_sizes_and_characters(self):
        for file in files():
            text = file.read_bytes().decode("ascii")
            self.assertRegex(text, r"\A[\n -~]*\Z")
            lines = text.split("\n")
            self.assertLessEqual(len(lines), 400, file)
            self.assertLessEqual(max(len(line) for line in lines), 120, file)

    def test_functions_are_short(self):
        for file, node in all_nodes():
            if isinstance(node, ast.FunctionDef):
                self.assertLessEqual(node.end_lineno - node.lineno + 1, 40, (file, node.name))

    def test_no_warnings(self):
        with warnings.catch_warnings():
            warnings.simplefilter("error")
            for file in files():
                compile(file.read_text(), str(file), "exec")


class ImportsTest(unittest.TestCase):
    def test_imports(self):
        for file, node in all_nodes():
            if isinstance(node, ast.ImportFrom):
                self.assertEqual(node.level, 0)
                names = {alias.name for alias in node.names}
                if node.module in LIBRARY:
                    self.assertLessEqual(names, LIBRARY[node.module])
                    continue
                self.assertRegex(node.module, r"\Anestcall\.[a-z]+\Z")
                other = FOLDER / (node.module.split(".")[1] + ".py")
                tops = {top.name for top in tree_of(other).body if isinstance(top, (ast.FunctionDef, ast.ClassDef))}
                tops |= {top.targets[0].id for top in tree_of(other).body if isinstance(top, ast.Assign)}
                self.assertLessEqual(names, tops, file)

    def test_no_circles(self):
        needs = {}
        for file in files():
            imports = [node for node in tree_of(file).body if isinstance(node, ast.ImportFrom)]
            needs[file.stem] = {node.module.split(".")[1] for node in imports if node.module.startswith("nestcall.")}
        while needs:
            ready = [name for name in needs if not needs[name] & set(needs)]
            self.assertTrue(ready, needs)
            for name in ready:
                del needs[name]

    def test_imports_stand_at_the_top_and_are_used(self):
        for file in files():
            tree = tree_of(file)
            used = {node.id for node in ast.walk(tree) if isinstance(node, ast.Name)}
            for node in ast.walk(tree):
                if isinstance(node, ast.ImportFrom):
                    self.assertIn(node, tree.body)
                    self.assertLessEqual({alias.name for alias in node.names}, used, file)


class CodeTest(unittest.TestCase):
    def test_module_level(self):
        for file in files():
            for node in tree_of(file).body:
                if isinstance(node, ast.Assign):
                    self.assertEqual(len(node.targets), 1)
                    self.assertIsInstance(node.targets[0], ast.Name)
                    for part in ast.walk(node.value):
                        self.assertIsInstance(part, PLAIN, (file, node.lineno))
                    continue
                if isinstance(node, ast.Expr):
                    self.assertIsInstance(node.value, ast.Constant)
                    continue
                self.assertIsInstance(node, (ast.ImportFrom, ast.FunctionDef, ast.ClassDef), file)

    def test_forbidden_parts(self):
        for file, node in all_nodes():
            self.assertNotIsInstance(node, FORBIDDEN, (file, getattr(node, "lineno", 0)))
            if isinstance(node, (ast.FunctionDef, ast.ClassDef)):
                self.assertEqual(node.decorator_list, [])
            if isinstance(node, ast.GeneratorExp):
                self.fail((file, node.lineno))

    def test_builtins(self):
        for file in files():
            tree = tree_of(file)
            bound = bound_names(tree)
            self.assertEqual((bound - {"_"}) & set(vars(builtins)), set(), file)
            for node in ast.walk(tree):
                if isinstance(node, ast.Name) and isinstance(node.ctx, ast.Load) and node.id not in bound:
                    self.assertIn(node.id, BUILTINS, file)

    def test_methods(self):
        own = own_names()
        for file, node in all_nodes():
            if isinstance(node, ast.Call) and isinstance(node.func, ast.Attribute):
                self.assertIn(node.func.attr, METHODS | own, (file, node.lineno))

    def test_attributes(self):
        """Own attributes and methods do not have the names of those of builtin values, but for some."""
        taken = {name for kind in (str, int, list, dict, set, bytes, tuple) for name in dir(kind)}
        for file, node in all_nodes():
            if isinstance(node, ast.Attribute) and isinstance(node.ctx, ast.Store):
                self.assertNotIn(node.attr, taken - {"count", "index", "title", "copy", "add"}, (file, node.lineno))
                self.assertNotIn(node.attr, BARRED | {"args"}, (file, node.lineno))
            if isinstance(node, ast.ClassDef):
                methods = {part.name for part in node.body if isinstance(part, ast.FunctionDef)}
                self.assertEqual(methods & (taken - SPECIAL), set(), (file, node.name))
                stored = [part for part in ast.walk(node) if isinstance(part, ast.Attribute)]
                self.assertEqual(methods & {part.attr for part in stored if isinstance(part.ctx, ast.Store)}, set())

    def test_words_that_do_not_occur(self):
        for file in files():
            self.assertNotRegex(file.read_text(), r"\b(type|typing|enum|namedtuple|dataclass|_wall|_WallAttr)\b")

    def test_locals_are_no_imports(self):
        for file in files():
            tree = tree_of(file)
            tops = {alias.name for node in tree.body if isinstance(node, ast.ImportFrom) for alias in node.names}
            tops |= {node.name for node in tree.body if isinstance(node, ast.ClassDef)}
            for node in ast.walk(tree):
                if isinstance(node, ast.arg):
                    self.assertNotIn(node.arg, tops, file)
                if isinstance(node, ast.Name) and isinstance(node.ctx, ast.Store):
                    self.assertNotIn(node.id, tops, file)

    def test_names(self):
        for file in files():
            for name in bound_names(tree_of(file)):
                self.assertNotIn(name, BARRED, file)
                if name.startswith("__"):
                    self.assertIn(name, SPECIAL, file)

    def test_strings(self):
        for file, node in all_nodes():
            if isinstance(node, ast.Constant):
                self.assertNotIsInstance(node.value, (float, complex, bytes))
                if isinstance(node.value, str):
                    self.assertNotIn("%", node.value, (file, node.lineno))

    def test_caught_errors(self):
        for file, node in all_nodes():
            if isinstance(node, ast.ExceptHandler):
                self.assertIsNotNone(node.type)
            if isinstance(node, ast.Raise) and node.exc is not None:
                self.assertIsInstance(node.exc, ast.Call, (file, node.lineno))
                self.assertIsInstance(node.exc.func, ast.Name, (file, node.lineno))


class InterfaceTest(unittest.TestCase):
    FUNCTIONS = {
        "words": {"is_name": ["word"], "number_of": ["word"]},
        "expression": {"expression_words": ["expression"], "combine": ["sign", "left", "right"]},
        "house": {"read_house": ["text"], "house_text": ["house"]},
        "state": {"first_state": ["house"], "worth": ["state", "prices"]},
        "walk": {"walk": ["house", "acts"]},
        "search": {"least_rows": ["house"], "reachable": ["house"]},
        "judge": {"is_closed": ["house", "pairs"], "bound": ["house", "pairs", "prices"]},
        "most": {"most": ["house", "prices"], "play_to": ["house", "state"], "best_play": ["house", "prices"]},
        "paper": {"state_text": ["state"], "read_state": ["house", "text", "at"], "paper_lines": ["pairs"],
                  "read_paper": ["house", "lines"]},
        "outsider": {"read_outsider": ["text"], "outsider_text": ["outsider"],
                     "acts_of": ["house", "outsider", "count"], "outsider_of": ["acts"]},
        "guards": {"guarded": ["house", "guards"], "least_guards": ["house", "candidates", "prices", "limit"]},
        "upgrade": {"carried": ["old", "new", "state"], "most_after": ["old", "new", "prices"]},
        "apart": {"parts": ["house"], "part_house": ["house", "row"]},
        "code": {"compiled": ["house"]},
    }
    LISTED = {
        "walk": {"Walk": {"act": ["act"], "can": ["act"], "asked": [], "depth": []}},
        "machine": {"Machine": {"act": ["act"], "asked": []}},
    }
    CLASSES = {
        "errors": {"HouseError": None, "BadText": ["at"], "BadAct": ["at"], "BadGuard": ["at"], "BadPaper": ["at"],
                   "TooLarge": ["what"], "BadHouse": ["what"]},
        "words": {"Cursor": ["text"]},
        "house": {"House": ["assets", "contracts"]},
        "walk": {"Walk": ["house", "state"]},
        "outsider": {"Outsider": ["rules"]},
        "code": {"Code": None},
        "machine": {"Machine": ["house"]},
    }
    DEFAULTS = {("Walk", "__init__"): [None], ("read_state", None): [0]}

    def test_functions(self):
        for name, functions in self.FUNCTIONS.items():
            found = {top.name: top for top in tree_of(FOLDER / f"{name}.py").body if isinstance(top, ast.FunctionDef)}
            for function, arguments in functions.items():
                self.assertIn(function, found)
                self.assertEqual([arg.arg for arg in found[function].args.args], arguments)

    def test_default_values(self):
        """Only what the interface lists with a default value has one, and just this one."""
        for name in list(self.FUNCTIONS) + list(self.CLASSES):
            for top in tree_of(FOLDER / f"{name}.py").body:
                if isinstance(top, ast.FunctionDef) and top.name in self.FUNCTIONS.get(name, {}):
                    self.check_defaults(top, (top.name, None))
                if isinstance(top, ast.ClassDef) and top.name in self.CLASSES.get(name, {}):
                    for part in top.body:
                        if isinstance(part, ast.FunctionDef) and part.name == "__init__":
                            self.check_defaults(part, (top.name, part.name))

    def check_defaults(self, function, key):
        found = [value.value for value in function.args.defaults]
        self.assertEqual(found, self.DEFAULTS.get(key, []), key)
        self.assertFalse(function.args.kwonlyargs or function.args.posonlyargs or function.args.vararg, key)

    def test_methods(self):
        """Each method that is listed stands in the body of the class itself."""
        for name, classes in self.LISTED.items():
            found = {top.name: top for top in tree_of(FOLDER / f"{name}.py").body if isinstance(top, ast.ClassDef)}
            for own, methods in classes.items():
                body = {part.name: part for part in found[own].body if isinstance(part, ast.FunctionDef)}
                for method, arguments in methods.items():
                    self.assertIn(method, body)
                    self.assertEqual([arg.arg for arg in body[method].args.args], ["self"] + arguments)

    def test_equal_houses_and_outsiders(self):
        for name, own in (("house", "House"), ("outsider", "Outsider")):
            found = {top.name: top for top in tree_of(FOLDER / f"{name}.py").body if isinstance(top, ast.ClassDef)}
            self.assertIn("__eq__", {part.name for part in found[own].body if isinstance(part, ast.FunctionDef)})

    def test_classes(self):
        for name, classes in self.CLASSES.items():
            found = {top.name: top for top in tree_of(FOLDER / f"{name}.py").body if isinstance(top, ast.ClassDef)}
            for own, arguments in classes.items():
                self.assertIn(own, found)
                inits = [part for part in found[own].body if getattr(part, "name", "") == "__init__"]
                if arguments is not None:
                    self.assertEqual([arg.arg for arg in inits[0].args.args], ["self"] + arguments)


if __name__ == "__main__":
    unittest.main()
