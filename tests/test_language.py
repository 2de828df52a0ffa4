"""Whether the package keeps to the rules for its language, as far as a test can tell them."""
import ast
import builtins
import os
import unittest

PACKAGE = os.path.join(os.path.dirname(os.path.dirname(os.path.abspath(__file__))), "lookalike")

BUILTINS = """len range enumerate zip min max sum abs sorted reversed int str bool bytes list tuple dict set frozenset
    isinstance ord repr any all divmod pow getattr hasattr setattr iter next map super property staticmethod classmethod
    Exception ValueError TypeError KeyError IndexError LookupError ZeroDivisionError ArithmeticError OverflowError
    RuntimeError NotImplementedError AttributeError StopIteration NotImplemented""".split()
METHODS = """append clear copy count endswith extend find get index insert isalnum isalpha isdigit islower isspace
    isupper items join keys ljust lower lstrip partition pop remove replace reverse rfind rjust rpartition rsplit rstrip
    setdefault split splitlines startswith strip update upper values zfill bit_length add discard sort""".split()
NOWHERE = "register mro elements open input law version_info with_traceback add_note".split()
NO_VARIABLES = """attrgetter breakpoint builtins compile copyright credits delattr dir eval exec exit gc getattr globals
    hasattr help id importlib license locals methodcaller os quit setattr super type vars sys""".split()
NO_WORDS = """type typing typing_extensions enum Enum IntEnum StrEnum Flag IntFlag Generic Protocol ABC ABCMeta
    namedtuple NamedTuple TypedDict TYPE_CHECKING abstractmethod dataclass overload contextmanager""".split()
NO_STATEMENTS = (ast.Global, ast.AsyncFor, ast.AsyncWith, ast.AsyncFunctionDef, ast.Import, ast.AnnAssign)
AT_ONCE = "list tuple dict sorted sum any all enumerate zip min max".split()
STORED_NEVER = "zip enumerate reversed range map".split()


def package_files():
    return sorted(name for name in os.listdir(PACKAGE) if name != "__pycache__")


def source_of(name):
    with open(os.path.join(PACKAGE, name), encoding="utf-8") as file:
        return file.read()


def parents_of(tree):
    return {child: node for node in ast.walk(tree) for child in ast.iter_child_nodes(node)}


def bound_names(tree):
    """All names that a file binds anywhere, with the nodes that do."""
    for node in ast.walk(tree):
        if isinstance(node, ast.Name) and isinstance(node.ctx, ast.Store):
            yield node.id, node
        elif isinstance(node, ast.arg):
            yield node.arg, node
        elif isinstance(node, (ast.FunctionDef, ast.ClassDef)):
            yield node.name, node
        elif isinstance(node, ast.ExceptHandler) and node.name:
            yield node.name, node


class LanguageTest(unittest.TestCase):
    def setUp(self):
        self.trees = {name: ast.parse(source_of(name)) for name in package_files()}

    def each_node(self):
        for name, tree in self.trees.items():
            for node in ast.walk(tree):
                yield f"{name}:{getattr(node, 'lineno', 0)}", node

    def test_files(self):
        self.assertIn("__init__.py", package_files())
        for name in package_files():
            self.assertRegex(name, r"\A[a-z_]+\.py\Z")
            text = source_of(name)
            lines = text.split("\n")
            self.assertLessEqual(len(lines), 399, name)
            for number, line in enumerate(lines, 1):
                self.assertLessEqual(len(line), 120, f"{name}:{number}")
                self.assertTrue(all(" " <= sign <= "~" for sign in line), f"{name}:{number}")
                self.assertEqual(line, line.rstrip(), f"{name}:{number}")

    def test_sizes_of_functions(self):
        for where, node in self.each_node():
            if isinstance(node, ast.FunctionDef):
                self.assertLessEqual(node.end_lineno - node.lineno + 1, 40, where)
                self.assertEqual(node.decorator_list, [], where)

    def test_imports(self):
        leads = {}
        for name, tree in self.trees.items():
            used = {node.id for node in ast.walk(tree) if isinstance(node, ast.Name)}
            leads[name] = []
            for node in ast.walk(tree):
                if not isinstance(node, ast.ImportFrom):
                    continue
                self.assertIn(node, tree.body, name)
                if node.module == "heapq":
                    for alias in node.names:
                        self.assertIsNone(alias.asname)
                        self.assertIn(alias.name, ("heappush", "heappop"))
                        self.assertIn(alias.name, used, f"{name} does not use it")
                    continue
                self.assertTrue(node.module.startswith("lookalike."), name)
                file = node.module[len("lookalike."):] + ".py"
                leads[name].append(file)
                defined = {at.name for at in self.trees[file].body if isinstance(at, (ast.FunctionDef, ast.ClassDef))}
                for at in self.trees[file].body:
                    if isinstance(at, ast.Assign):
                        defined.add(at.targets[0].id)
                for alias in node.names:
                    self.assertIsNone(alias.asname)
                    self.assertIn(alias.name, defined, f"{name} imports it from {file}")
                    self.assertIn(alias.name, used, f"{name} does not use it")
        over = []
        while len(over) < len(leads):
            ready = [name for name in leads if name not in over and all(file in over for file in leads[name])]
            self.assertNotEqual(ready, [], "imports lead round")
            over.extend(ready)

    def test_module_level(self):
        for name, tree in self.trees.items():
            bound = []
            for node in tree.body:
                if isinstance(node, ast.Assign):
                    self.assertEqual(len(node.targets), 1, name)
                    bound.append(node.targets[0].id)
                elif isinstance(node, ast.ImportFrom):
                    bound.extend(alias.name for alias in node.names)
                elif isinstance(node, (ast.FunctionDef, ast.ClassDef)):
                    bound.append(node.name)
                else:
                    self.assertIsInstance(node, ast.Expr, name)
                    self.assertIsInstance(node.value, ast.Constant, name)
            self.assertEqual(len(bound), len(set(bound)), name)

    def test_names(self):
        for name, tree in self.trees.items():
            fixed = {node.name for node in tree.body if isinstance(node, ast.ClassDef)}
            for node in tree.body:
                if isinstance(node, ast.ImportFrom):
                    fixed.update(alias.name for alias in node.names)
            methods = [at for node in tree.body if isinstance(node, ast.ClassDef) for at in node.body]
            for bound, node in bound_names(tree):
                where = f"{name}:{node.lineno} {bound}"
                if bound in ("__init__", "__len__"):
                    continue
                self.assertFalse(bound.startswith("__"), where)
                self.assertNotIn(bound, NOWHERE + NO_VARIABLES, where)
                if node not in methods:
                    self.assertFalse(hasattr(builtins, bound), where)
                if not isinstance(node, (ast.ClassDef, ast.FunctionDef)):
                    self.assertNotIn(bound, fixed, where)

    def test_statements_and_expressions(self):
        for where, node in self.each_node():
            if isinstance(node, ast.Try):
                self.assertLessEqual({handler.type.id for handler in node.handlers}, {"InvalidText", "Refused"}, where)
                for part in node.finalbody:
                    self.assertIsInstance(part, ast.Assign, where)
                    self.assertIsInstance(part.value, ast.Name, where)
            self.assertNotIsInstance(node, NO_STATEMENTS, where)
            self.assertNotIsInstance(node, (ast.Div, ast.Yield, ast.YieldFrom, ast.Lambda, ast.NamedExpr), where)
            if isinstance(node, ast.Constant):
                self.assertNotIsInstance(node.value, (float, complex), where)
                if isinstance(node.value, str):
                    self.assertNotIn("%", node.value, where)
            if isinstance(node, ast.Compare):
                for op, right in zip(node.ops, node.comparators):
                    if isinstance(op, (ast.Is, ast.IsNot)):
                        self.assertIsInstance(right, ast.Constant, where)
            if isinstance(node, ast.BinOp) and isinstance(node.op, ast.Pow):
                self.assertIsInstance(node.right, ast.Constant, where)

    def test_no_star_in_an_index(self):
        for where, node in self.each_node():
            if isinstance(node, ast.Subscript):
                self.assertFalse(any(isinstance(part, ast.Starred) for part in ast.walk(node.slice)), where)

    def test_no_name_is_a_method_and_an_attribute(self):
        methods, attributes = set(), set()
        for _, node in self.each_node():
            if isinstance(node, ast.ClassDef):
                methods.update(at.name for at in node.body if isinstance(at, ast.FunctionDef))
            elif isinstance(node, ast.Attribute) and isinstance(node.ctx, ast.Store):
                attributes.add(node.attr)
        self.assertEqual(methods & attributes, set())

    def test_double_underscores(self):
        for name, tree in self.trees.items():
            for node in ast.walk(tree):
                if isinstance(node, ast.FunctionDef) and node.name == "__len__":
                    self.assertEqual([ast.unparse(part) for part in node.body], ["return len(self.story.deeds)"], name)

    def test_builtins_and_methods(self):
        own = set()
        for _, node in self.each_node():
            if isinstance(node, ast.ClassDef):
                own.update(at.name for at in node.body if isinstance(at, ast.FunctionDef))
        for where, node in self.each_node():
            if isinstance(node, ast.Name) and hasattr(builtins, node.id):
                self.assertIn(node.id, BUILTINS, where)
            if isinstance(node, ast.Attribute):
                self.assertNotIn(node.attr, NOWHERE, where)
            if isinstance(node, ast.Call) and isinstance(node.func, ast.Attribute):
                self.assertIn(node.func.attr, own.union(METHODS), where)

    def test_words_that_do_not_occur(self):
        for name, tree in self.trees.items():
            docs = {ast.get_docstring(node, clean=False) for node in ast.walk(tree)
                    if isinstance(node, (ast.Module, ast.ClassDef, ast.FunctionDef))}
            for node in ast.walk(tree):
                words = []
                if isinstance(node, ast.Constant) and isinstance(node.value, str) and node.value not in docs:
                    words = node.value.replace(".", " ").split()
                elif isinstance(node, ast.Name):
                    words = [node.id]
                elif isinstance(node, ast.Attribute):
                    words = [node.attr]
                for word in words:
                    self.assertNotIn(word, NO_WORDS, f"{name}:{node.lineno}")

    def test_what_is_iterated_at_once(self):
        for name, tree in self.trees.items():
            parents = parents_of(tree)
            for node in ast.walk(tree):
                if not isinstance(node, ast.Call):
                    continue
                is_view = isinstance(node.func, ast.Attribute) and node.func.attr in ("items", "keys", "values")
                is_kept = isinstance(node.func, ast.Name) and node.func.id in STORED_NEVER
                if not is_view and not is_kept:
                    continue
                around = parents[node]
                if isinstance(around, ast.Call):
                    ok = isinstance(around.func, ast.Name) and around.func.id in AT_ONCE
                else:
                    ok = isinstance(around, (ast.For, ast.comprehension)) and around.iter is node
                self.assertTrue(ok, f"{name}:{node.lineno}")

    def test_sets(self):
        for name, tree in self.trees.items():
            parents = parents_of(tree)
            for node in ast.walk(tree):
                is_set = isinstance(node, (ast.Set, ast.SetComp))
                if isinstance(node, ast.Call) and isinstance(node.func, ast.Name):
                    is_set = node.func.id in ("set", "frozenset")
                if not is_set:
                    continue
                around = parents[node]
                while isinstance(around, ast.BinOp):
                    around = parents[around]
                self.assertIsInstance(around, ast.Call, f"{name}:{node.lineno}")
                self.assertIn(around.func.id, ("sorted", "len"), f"{name}:{node.lineno}")

    def test_generator_expressions_stand_in_calls(self):
        for name, tree in self.trees.items():
            parents = parents_of(tree)
            for node in ast.walk(tree):
                if isinstance(node, ast.GeneratorExp):
                    around = parents[node]
                    self.assertIsInstance(around, ast.Call, f"{name}:{node.lineno}")
                    self.assertIn(around.func.id, AT_ONCE, f"{name}:{node.lineno}")


if __name__ == "__main__":
    unittest.main()
