"""Whether the files of the package keep to the subset of Python that the program is written in, where that is easy
to see: files, imports, sizes, signs, words, statements, builtins and methods."""

import ast
import builtins
import io
import tokenize
import unittest
import warnings
from pathlib import Path

TOP = Path(__file__).resolve().parent.parent
PACKAGE = TOP / "weylweights"
FILES = sorted(PACKAGE.rglob("*.py"))
LIBRARY = {
    "heapq": {"heappush", "heappop", "heapify", "heapreplace", "heappushpop"},
    "math": {"gcd", "lcm", "isqrt", "comb", "perm", "factorial"},
    "itertools": {"product", "combinations", "permutations", "chain", "accumulate", "pairwise", "islice",
                  "zip_longest"},
    "collections": {"defaultdict"},
}
BUILTINS = set("""len range enumerate zip min max sum abs sorted reversed int str bool bytes list tuple dict set
    frozenset isinstance ord repr any all divmod pow Exception ValueError TypeError KeyError IndexError LookupError
    ZeroDivisionError ArithmeticError OverflowError RuntimeError NotImplementedError AttributeError StopIteration
    NotImplemented True False None iter next super map""".split())
METHODS = set("""append clear copy count endswith extend find get index insert isalnum isalpha isdigit islower isspace
    isupper items join keys ljust lower lstrip partition pop remove replace reverse rfind rjust rpartition rsplit
    rstrip setdefault split splitlines startswith strip update upper values zfill bit_length add discard sort title
    capitalize swapcase casefold center expandtabs removeprefix removesuffix rindex isascii isdecimal isnumeric istitle
    isidentifier isprintable""".split())
BARRED_WORDS = set("""type typing typing_extensions enum Enum IntEnum StrEnum Flag IntFlag Generic Protocol ABC ABCMeta
    namedtuple NamedTuple TypedDict TYPE_CHECKING abstractmethod""".split())
BARRED_NAMES = set("""register mro elements open input law version_info with_traceback add_note attrgetter breakpoint
    builtins compile copyright credits delattr dir eval exec exit gc globals help id importlib license locals
    methodcaller os quit setattr vars sys _wall""".split())
STATEMENTS = (
    ast.Expr, ast.Assign, ast.AugAssign, ast.AnnAssign, ast.If, ast.While, ast.For, ast.Return, ast.Break,
    ast.Continue, ast.Pass, ast.Raise, ast.Assert, ast.Delete, ast.Nonlocal, ast.Match, ast.With, ast.Try,
    ast.FunctionDef, ast.ClassDef, ast.ImportFrom,
)
AT_MODULE_LEVEL = (ast.ImportFrom, ast.FunctionDef, ast.ClassDef, ast.Assign)


def tree_of(path):
    return ast.parse(path.read_text())


def nodes_of(path, kind):
    return [node for node in ast.walk(tree_of(path)) if isinstance(node, kind)]


class Form(unittest.TestCase):
    def for_all_files(self):
        for path in FILES:
            with self.subTest(path.name):
                yield path

    def test_the_folder_contains_python_files_alone(self):
        self.assertIn(PACKAGE / "__init__.py", FILES)
        others = [path for path in PACKAGE.rglob("*") if path.is_file() and path.suffix not in (".py", ".pyc")]
        self.assertEqual(others, [])

    def test_no_warnings(self):
        for path in self.for_all_files():
            with warnings.catch_warnings():
                warnings.simplefilter("error")
                compile(path.read_text(), str(path), "exec")

    def test_sizes_and_signs(self):
        for path in self.for_all_files():
            text = path.read_text()
            self.assertLessEqual(len(text.splitlines()), 399)
            self.assertLessEqual(max(map(len, text.splitlines())), 120)
            self.assertTrue(all(sign == "\n" or " " <= sign <= "~" for sign in text))
            for function in nodes_of(path, (ast.FunctionDef, ast.Lambda)):
                self.assertLessEqual(function.end_lineno - function.lineno + 1, 40)

    def test_imports(self):
        for path in self.for_all_files():
            self.assertEqual(nodes_of(path, ast.Import), [])
            for node in nodes_of(path, ast.ImportFrom):
                names = {alias.name for alias in node.names}
                self.assertEqual(node.level, 0)
                self.assertFalse([alias for alias in node.names if alias.asname and node.module in LIBRARY])
                if node.module in LIBRARY:
                    self.assertLessEqual(names, LIBRARY[node.module])
                else:
                    self.assertTrue(node.module.startswith("weylweights."))
                    self.assertLessEqual(names, self.defined_in(node.module))

    def test_imports_and_private_functions_are_used(self):
        for path in self.for_all_files():
            tree = tree_of(path)
            told = {alias.name for node in ast.walk(tree) if isinstance(node, ast.ImportFrom) for alias in node.names}
            told |= {node.name for node in ast.walk(tree) if isinstance(node, ast.FunctionDef)
                     and node.name.startswith("_") and not node.name.startswith("__")}
            self.assertLessEqual(told, {node.id for node in ast.walk(tree) if isinstance(node, ast.Name)})

    def defined_in(self, module):
        tree = tree_of(PACKAGE / (module.split(".", 1)[1].replace(".", "/") + ".py"))
        found = {node.name for node in tree.body if isinstance(node, (ast.FunctionDef, ast.ClassDef))}
        return found | {node.targets[0].id for node in tree.body if isinstance(node, ast.Assign)}

    def test_no_two_files_import_from_each_other(self):
        ahead = {}
        for path in FILES:
            modules = {node.module.split(".")[-1] for node in nodes_of(path, ast.ImportFrom)
                       if node.module.startswith("weylweights")}
            ahead[path.stem] = modules
        while ahead:
            free = [name for name, modules in ahead.items() if not modules & set(ahead)]
            self.assertTrue(free, ahead)
            ahead = {name: modules for name, modules in ahead.items() if name not in free}

    def test_module_level(self):
        for path in self.for_all_files():
            names = []
            for node in tree_of(path).body:
                is_docstring = isinstance(node, ast.Expr) and isinstance(node.value, ast.Constant)
                self.assertTrue(is_docstring or isinstance(node, AT_MODULE_LEVEL), ast.dump(node))
                if isinstance(node, ast.Assign):
                    names.extend(target.id for target in node.targets)
                elif isinstance(node, ast.ImportFrom):
                    names.extend(alias.asname or alias.name for alias in node.names)
                elif not is_docstring:
                    names.append(node.name)
            self.assertEqual(len(names), len(set(names)))

    def test_statements_and_expressions(self):
        for path in self.for_all_files():
            for node in nodes_of(path, ast.stmt):
                self.assertIsInstance(node, STATEMENTS)
            for node in nodes_of(path, (ast.FunctionDef, ast.ClassDef)):
                self.assertTrue(all(isinstance(each, ast.Name) for each in node.decorator_list))
            self.assertFalse([node for node in nodes_of(path, ast.Constant) if isinstance(node.value, float)])
            self.assertFalse(nodes_of(path, (ast.Div, ast.Await, ast.MatMult, ast.Global)))

    def test_words(self):
        for path in self.for_all_files():
            for token in tokenize.generate_tokens(io.StringIO(path.read_text()).readline):
                if token.type == tokenize.NAME:
                    self.assertNotIn(token.string, BARRED_WORDS | BARRED_NAMES)
            for node in nodes_of(path, ast.Constant):
                if isinstance(node.value, str):
                    self.assertFalse("%" in node.value)

    def test_builtins_and_methods(self):
        for path in self.for_all_files():
            tree = tree_of(path)
            own = {node.name for node in ast.walk(tree) if isinstance(node, (ast.FunctionDef, ast.ClassDef))}
            own |= {alias.name for node in ast.walk(tree) if isinstance(node, ast.ImportFrom) for alias in node.names}
            own |= {node.id for node in ast.walk(tree) if isinstance(node, ast.Name)
                    and isinstance(node.ctx, ast.Store)}
            own |= {node.arg for node in ast.walk(tree) if isinstance(node, ast.arg)}
            own |= {node.name for node in ast.walk(tree) if isinstance(node, ast.ExceptHandler) and node.name}
            for node in nodes_of(path, ast.Name):
                self.assertTrue(node.id in own or node.id in BUILTINS, node.id)
            self.assertFalse(own & set(dir(builtins)))
            methods = {node.name for file in FILES for node in nodes_of(file, ast.FunctionDef)}
            for node in nodes_of(path, ast.Call):
                if isinstance(node.func, ast.Attribute):
                    self.assertIn(node.func.attr, METHODS | methods)

    def test_no_parameter_or_variable_has_the_name_of_a_class_or_an_import_of_its_file(self):
        for path in self.for_all_files():
            tree = tree_of(path)
            taken = {alias.name for node in ast.walk(tree) if isinstance(node, ast.ImportFrom) for alias in node.names}
            taken |= {node.name for node in ast.walk(tree) if isinstance(node, ast.ClassDef)}
            used = {node.arg for node in ast.walk(tree) if isinstance(node, ast.arg)}
            used |= {node.id for node in ast.walk(tree) if isinstance(node, ast.Name)
                     and isinstance(node.ctx, ast.Store)}
            self.assertFalse(taken & used)


if __name__ == "__main__":
    unittest.main()
