"""Rules of LANGUAGE.md that can be read off the files of the package.

They are narrower than that document where the package does not need more.
"""

import ast
import builtins
import pathlib
import re
import unittest

FOLDER = pathlib.Path(__file__).resolve().parent.parent / "goodsigns"
FILES = sorted(FOLDER.glob("*.py"))

BUILTINS = set("""len range enumerate zip min max sum abs sorted reversed int str bool list tuple dict set isinstance ord repr
    any all divmod type ValueError""".split())
METHODS = set("""append clear copy count endswith extend find get index insert isalnum isalpha isdigit islower isspace isupper
    items join keys ljust lower lstrip partition pop remove replace reverse rfind rjust rpartition rsplit rstrip setdefault
    split splitlines startswith strip update upper values zfill bit_length removeprefix removesuffix""".split())
LIBRARY = {"math": {"gcd", "lcm", "isqrt", "comb", "perm", "factorial"}, "heapq": {"heappush", "heappop"},
           "itertools": {"product", "combinations", "permutations"}}
DUNDERS = {"__init__", "__eq__", "__str__", "__repr__", "__len__", "__bool__"}
NODES = (ast.GeneratorExp, ast.Yield, ast.YieldFrom, ast.Lambda, ast.Global, ast.Nonlocal, ast.Import, ast.With,
         ast.AsyncFunctionDef, ast.Await, ast.Div, ast.MatMult, ast.NamedExpr, ast.Match, ast.JoinedStr, ast.AnnAssign)
WORDS = """type typing typing_extensions enum Enum IntEnum StrEnum Flag IntFlag Generic Protocol ABC ABCMeta namedtuple
    NamedTuple TypedDict TYPE_CHECKING abstractmethod register mro elements open input law version_info""".split()


def tree_of(path):
    """The syntax tree of a file."""
    return ast.parse(path.read_text(encoding="utf-8"))


def each_tree():
    """Each file with its tree."""
    return [(path, tree_of(path)) for path in FILES]


def bound_names(tree):
    """All names that a file binds anywhere but as attributes, with repeats."""
    found = []
    for node in ast.walk(tree):
        if isinstance(node, ast.Name) and isinstance(node.ctx, ast.Store):
            found.append(node.id)
        elif isinstance(node, ast.arg):
            found.append(node.arg)
        elif isinstance(node, (ast.FunctionDef, ast.ClassDef)):
            found.append(node.name)
        elif isinstance(node, ast.alias):
            found.append(node.asname or node.name)
    return found


def functions_of(tree):
    """All functions and methods of a file."""
    return [node for node in ast.walk(tree) if isinstance(node, ast.FunctionDef)]


def local_names(function):
    """The parameters and local variables of a function."""
    return [node.id for node in ast.walk(function) if isinstance(node, ast.Name) and isinstance(node.ctx, ast.Store)] + [
        node.arg for node in ast.walk(function) if isinstance(node, ast.arg)]


class Language(unittest.TestCase):
    def test_files(self):
        there = [each for each in FOLDER.iterdir() if each.name != "__pycache__"]
        self.assertEqual(sorted(there), FILES)
        for path in FILES:
            self.assertRegex(path.name, r"^(__init__|[a-z][a-z0-9_]*)\.py$")
            self.assertNotIn(path.stem, dir(builtins))
            lines = path.read_text(encoding="ascii").splitlines()
            self.assertLessEqual(len(lines), 399)
            for line in lines:
                self.assertLessEqual(len(line), 120)
                self.assertRegex(line, r"^[ -~]*$")
                self.assertEqual(line, line.rstrip())

    def test_nodes(self):
        for _, tree in each_tree():
            for node in ast.walk(tree):
                self.assertNotIsInstance(node, NODES)
                if isinstance(node, ast.Constant):
                    self.assertNotIsInstance(node.value, (float, complex))

    def test_functions(self):
        for _, tree in each_tree():
            for function in functions_of(tree):
                self.assertLessEqual(function.end_lineno - function.lineno + 1, 40, msg=function.name)
                self.assertTrue(ast.get_docstring(function) or function.name in DUNDERS, msg=function.name)
                if function.name.startswith("__"):
                    self.assertIn(function.name, DUNDERS)
                for each in function.decorator_list:
                    self.assertIn(each.id, ("staticmethod", "property"))

    def test_imports(self):
        for path, tree in each_tree():
            behind = False
            for node in tree.body:
                if isinstance(node, ast.ImportFrom):
                    self.assertFalse(behind, msg="an import that does not stand at the top")
                    self.check_import(node)
                elif not (isinstance(node, ast.Expr) and isinstance(node.value, ast.Constant)):
                    behind = True
                    self.assertIsInstance(node, (ast.FunctionDef, ast.ClassDef, ast.Assign))

    def check_import(self, node):
        names = [each.name for each in node.names]
        self.assertTrue(all(each.asname is None for each in node.names))
        self.assertEqual(node.level, 0)
        if node.module in LIBRARY:
            self.assertLessEqual(set(names), LIBRARY[node.module])
            return
        package, module = node.module.split(".")
        self.assertEqual(package, "goodsigns")
        defined = bound_names(ast.Module(
            [each for each in tree_of(FOLDER / f"{module}.py").body if not isinstance(each, ast.ImportFrom)], []))
        self.assertLessEqual(set(names), set(defined))

    def test_every_import_is_used(self):
        for _, tree in each_tree():
            used = {node.id for node in ast.walk(tree) if isinstance(node, ast.Name)}
            for node in ast.walk(tree):
                if isinstance(node, ast.ImportFrom):
                    self.assertLessEqual({each.name for each in node.names}, used)

    def test_no_files_import_each_other(self):
        needs = {path.stem: {node.module.split(".")[1] for node in tree_of(path).body
                             if isinstance(node, ast.ImportFrom) and "." in node.module} for path in FILES}
        while needs:
            free = [name for name in needs if not needs[name] & set(needs)]
            self.assertTrue(free, msg=f"among {sorted(needs)}")
            needs = {name: needs[name] for name in needs if name not in free}

    def test_names(self):
        for _, tree in each_tree():
            top = [node.name for node in tree.body if isinstance(node, (ast.FunctionDef, ast.ClassDef))]
            top += [each.name for node in tree.body if isinstance(node, ast.ImportFrom) for each in node.names]
            top += [each.id for node in tree.body if isinstance(node, ast.Assign) for each in node.targets]
            self.assertEqual(len(top), len(set(top)))
            for name in bound_names(tree):
                self.assertNotIn(name, dir(builtins) if name not in DUNDERS else [])
                self.assertRegex(name, r"^(_|_?[A-Za-z][A-Za-z0-9_]*|__[a-z]+__)$")
            for function in functions_of(tree):
                self.assertFalse(set(local_names(function)) & set(top), msg=function.name)

    def test_builtins_and_methods(self):
        own = {node.name for path in FILES for node in functions_of(tree_of(path))}
        for _, tree in each_tree():
            bound = set(bound_names(tree))
            for node in ast.walk(tree):
                if isinstance(node, ast.Name) and node.id in dir(builtins) and node.id not in bound:
                    self.assertIn(node.id, BUILTINS | {"staticmethod", "property"})
                if isinstance(node, ast.Call) and isinstance(node.func, ast.Attribute):
                    self.assertIn(node.func.attr, METHODS | own)
                if isinstance(node, ast.Call) and isinstance(node.func, ast.Name) and node.func.id in ("any", "all"):
                    self.assertEqual(len(node.args), 1)

    def test_is_and_exponents(self):
        for _, tree in each_tree():
            for node in ast.walk(tree):
                if isinstance(node, ast.Compare) and any(isinstance(each, (ast.Is, ast.IsNot)) for each in node.ops):
                    sides = [node.left] + node.comparators
                    asked = isinstance(node.left, ast.Call) and node.left.func.id == "type"
                    self.assertTrue(asked or any(isinstance(each, ast.Constant) for each in sides))
                if isinstance(node, ast.BinOp) and isinstance(node.op, ast.Pow):
                    self.assertTrue(isinstance(node.right, ast.Constant) and 0 <= node.right.value <= 64)

    def test_words(self):
        for path, tree in each_tree():
            texts = {node.value for node in ast.walk(tree) if isinstance(node, ast.Constant) and isinstance(node.value, str)}
            docs = {ast.get_docstring(node, clean=False) for node in [tree] + [
                each for each in ast.walk(tree) if isinstance(each, (ast.FunctionDef, ast.ClassDef))]}
            for text in texts - docs:
                self.assertNotIn("%", text)
                self.assertFalse(set(re.findall(r"\w+", text)) & set(WORDS))
            self.assertFalse(set(bound_names(tree)) & set(WORDS))

    def test_own_errors_alone_are_caught(self):
        own = {node.name for node in tree_of(FOLDER / "errors.py").body if isinstance(node, ast.ClassDef)}
        for _, tree in each_tree():
            for node in ast.walk(tree):
                if isinstance(node, ast.Try):
                    self.assertFalse(node.finalbody)
                    self.assertLessEqual({each.type.id for each in node.handlers}, own)

    def test_errors_are_made_on_the_spot(self):
        for _, tree in each_tree():
            for node in ast.walk(tree):
                if isinstance(node, ast.Raise):
                    self.assertIsInstance(node.exc, ast.Call)
                    self.assertRegex(node.exc.func.id, r"^[A-Z]")


if __name__ == "__main__":
    unittest.main()
