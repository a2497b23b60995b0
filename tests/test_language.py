"""Some rules of ../shared/LANGUAGE.md that can be told from the files of the package alone."""

import ast
import builtins
import pathlib
import unittest

from runturns import errors

PACKAGE = pathlib.Path(__file__).resolve().parent.parent / "runturns"
LIBRARY = {"heapq": {"heappush", "heappop", "heapify", "heapreplace", "heappushpop"},
           "math": {"gcd", "lcm", "isqrt", "comb", "perm", "factorial"},
           "itertools": {"product", "combinations", "permutations", "chain", "accumulate", "pairwise", "islice",
                         "zip_longest"},
           "collections": {"defaultdict"}}
BUILTINS = set("""len range enumerate zip min max sum abs sorted reversed int str bool bytes list tuple dict set
    isinstance ord repr any all divmod pow getattr hasattr setattr iter next map super property staticmethod classmethod
    Exception ValueError TypeError KeyError IndexError LookupError ZeroDivisionError ArithmeticError OverflowError
    RuntimeError NotImplementedError AttributeError StopIteration NotImplemented""".split())
BARRED = (ast.Global, ast.AsyncFunctionDef, ast.AsyncFor, ast.AsyncWith, ast.Await, ast.Import, ast.Div)
# A class of the package has an __eq__, so any, all, min, max, sum and sorted take lists (L7).
NOT_USED = (ast.GeneratorExp, ast.Yield, ast.YieldFrom, ast.Pow, ast.Starred, ast.Nonlocal, ast.Set, ast.SetComp)
METHODS = set("""append clear copy count endswith extend find get index insert isalnum isalpha isdigit islower isspace
    isupper items join keys ljust lower lstrip partition pop remove replace reverse rfind rjust rpartition rsplit rstrip
    setdefault split splitlines startswith strip update upper values zfill bit_length""".split())
WORDS_NOT_USED = set("""register mro elements open input law version_info with_traceback add_note attrgetter breakpoint
    builtins compile copyright credits delattr dir eval exec exit gc globals help id importlib license locals
    methodcaller os quit type vars sys typing enum dataclass""".split())


def files():
    return sorted(path for path in PACKAGE.iterdir() if path.name != "__pycache__")


def trees():
    return [(path.name, ast.parse(path.read_text())) for path in files()]


class Language(unittest.TestCase):
    def test_files_and_their_lines(self):
        for path in files():
            self.assertRegex(path.name, "^[a-z0-9_]+[.]py$")
            text = path.read_text()
            self.assertTrue(all(sign == "\n" or " " <= sign <= "~" for sign in text), path.name)
            self.assertLess(len(text.splitlines()), 400, path.name)
            self.assertLessEqual(max([len(line) for line in text.splitlines()], default=0), 120, path.name)

    def test_sizes_of_functions(self):
        for name, tree in trees():
            for node in ast.walk(tree):
                if isinstance(node, ast.FunctionDef):
                    self.assertLessEqual(node.end_lineno - node.lineno + 1, 40, (name, node.name))

    def test_imports(self):
        for name, tree in trees():
            for node in ast.walk(tree):
                if isinstance(node, ast.ImportFrom):
                    self.assertIn(node, tree.body, name)
                    self.assertEqual(node.level, 0, name)
                    named = {alias.name for alias in node.names}
                    own = node.module.startswith("runturns.") and "*" not in named
                    self.assertTrue(own or named <= LIBRARY.get(node.module, set()), (name, node.module))

    def test_statements_and_literals(self):
        for name, tree in trees():
            for node in ast.walk(tree):
                self.assertNotIsInstance(node, BARRED + NOT_USED, name)
                if isinstance(node, ast.Constant):
                    self.assertNotIsInstance(node.value, (float, complex), name)
                    self.assertFalse(isinstance(node.value, str) and "%" in node.value, name)

    def test_builtins(self):
        for name, tree in trees():
            words = [node for node in ast.walk(tree) if isinstance(node, ast.Name)]
            used = {node.id for node in words}
            self.assertEqual(sorted(word for word in used & set(dir(builtins)) if word not in BUILTINS), [], name)
            given = {node.arg for node in ast.walk(tree) if isinstance(node, ast.arg)}
            given |= {node.id for node in words if isinstance(node.ctx, ast.Store)}
            self.assertEqual(sorted(given & set(dir(builtins))), [], name)

    def test_sets_are_counted_at_once(self):
        for name, tree in trees():
            parents = {inner: node for node in ast.walk(tree) for inner in ast.iter_child_nodes(node)}
            for node in ast.walk(tree):
                if isinstance(node, ast.Name) and node.id in ("set", "frozenset"):
                    above = parents[parents[node]]
                    self.assertTrue(isinstance(above, ast.Call) and above.func.id in ("len", "sorted"), name)

    def test_names_of_imports_and_classes_mean_nothing_else(self):
        for name, tree in trees():
            bound = [node.name for node in tree.body if isinstance(node, ast.ClassDef)]
            bound += [alias.name for node in tree.body if isinstance(node, ast.ImportFrom) for alias in node.names]
            self.assertEqual(len(bound), len(set(bound)), name)
            words = [node for node in ast.walk(tree) if isinstance(node, ast.Name)]
            given = [node.arg for node in ast.walk(tree) if isinstance(node, ast.arg)]
            given += [node.name for node in ast.walk(tree) if isinstance(node, ast.FunctionDef)]
            given += [node.id for node in words if isinstance(node.ctx, ast.Store)]
            self.assertEqual(sorted(set(given) & set(bound)), [], name)
            self.assertEqual(sorted((set(given) | set(bound)) & WORDS_NOT_USED), [], name)

    def test_attributes_are_own_ones_or_known_methods(self):
        own, read = set(), set()
        for name, tree in trees():
            for node in ast.walk(tree):
                if isinstance(node, ast.ClassDef):
                    own |= {method.name for method in node.body if isinstance(method, ast.FunctionDef)}
                if isinstance(node, ast.Attribute):
                    (own if isinstance(node.ctx, ast.Store) else read).add(node.attr)
        self.assertEqual(sorted(read - own - METHODS), [])

    def test_errors_are_caught_and_raised_by_their_names(self):
        for name, tree in trees():
            for node in ast.walk(tree):
                if isinstance(node, ast.Try):
                    self.assertEqual(node.finalbody, [], name)
                if isinstance(node, ast.ExceptHandler):
                    self.assertIsNone(node.name, name)
                    self.assertTrue(issubclass(getattr(errors, node.type.id), errors.ShelfError), name)
                if isinstance(node, ast.Raise):
                    self.assertTrue(issubclass(getattr(errors, node.exc.func.id), errors.ShelfError), name)

    def test_no_two_files_import_from_each_other(self):
        needed = {}
        for name, tree in trees():
            inner = [node.module.split(".")[1] + ".py" for node in tree.body
                     if isinstance(node, ast.ImportFrom) and node.module.startswith("runturns.")]
            needed[name] = set(inner)
        while needed:
            free = [name for name in needed if not needed[name]]
            self.assertNotEqual(free, [], needed)
            needed = {name: needed[name] - set(free) for name in needed if name not in free}

    def test_each_import_names_the_file_that_defines_the_name(self):
        given = {name: {node.name for node in tree.body if isinstance(node, (ast.FunctionDef, ast.ClassDef))} |
                 {target.id for node in tree.body if isinstance(node, ast.Assign) for target in node.targets}
                 for name, tree in trees()}
        for name, tree in trees():
            for node in tree.body:
                if isinstance(node, ast.ImportFrom) and node.module.startswith("runturns."):
                    named = {alias.name for alias in node.names}
                    self.assertLessEqual(named, given[node.module.split(".")[1] + ".py"], name)

    def test_module_level(self):
        plain = (ast.Constant, ast.Tuple, ast.List, ast.Dict, ast.Name, ast.Load)
        for name, tree in trees():
            bound = []
            for node in tree.body:
                if isinstance(node, ast.Assign):
                    self.assertTrue(all(isinstance(inner, plain) for inner in ast.walk(node.value)), name)
                    bound += [target.id for target in node.targets]
                elif isinstance(node, (ast.FunctionDef, ast.ClassDef)):
                    bound.append(node.name)
                else:
                    docstring = isinstance(node, ast.Expr) and isinstance(node.value, ast.Constant)
                    self.assertTrue(docstring or isinstance(node, ast.ImportFrom), name)
            self.assertEqual(len(bound), len(set(bound)), name)

    def test_functions_and_methods(self):
        for name, tree in trees():
            for node in ast.walk(tree):
                if isinstance(node, ast.FunctionDef):
                    given = node.args
                    self.assertEqual([node.decorator_list, given.kwonlyargs, given.posonlyargs], [[], [], []], name)
                    self.assertEqual([given.vararg, given.kwarg, node.returns], [None, None, None], name)
                    self.assertTrue(name == "errors.py" or given.defaults == [], name)
                    dunder = node.name.startswith("__")
                    self.assertTrue(not dunder or node.name in ("__init__", "__eq__", "__enter__", "__exit__"), name)

    def test_calls(self):
        own = {node.name: len(node.args.args)
               for _, tree in trees() for node in tree.body if isinstance(node, ast.FunctionDef)}
        keywords = {"sorted": {"key"}, "min": {"key", "default"}, "max": {"key", "default"}}
        for name, tree in trees():
            for node in ast.walk(tree):
                if isinstance(node, ast.Call):
                    word = node.func.id if isinstance(node.func, ast.Name) else ""
                    self.assertLessEqual({keyword.arg for keyword in node.keywords}, keywords.get(word, set()), name)
                    self.assertEqual(len(node.args), own.get(word, len(node.args)), (name, word))

    def test_what_stands_beside_is(self):
        for name, tree in trees():
            for node in ast.walk(tree):
                if isinstance(node, ast.Compare):
                    for sign, other in zip(node.ops, node.comparators):
                        if isinstance(sign, (ast.Is, ast.IsNot)):
                            self.assertIsInstance(other, ast.Constant, name)

    def test_each_import_is_used(self):
        for name, tree in trees():
            used = {node.id for node in ast.walk(tree) if isinstance(node, ast.Name)}
            for node in tree.body:
                if isinstance(node, ast.ImportFrom):
                    self.assertLessEqual({alias.name for alias in node.names}, used, name)
