"""The rules of the language subset that can be seen in a file's text or tree, for each file of the package."""

import ast
import builtins
import os
import re
import unittest
import warnings

HERE = os.path.dirname(os.path.dirname(os.path.abspath(__file__)))
PACKAGE = os.path.join(HERE, "leanbundle")

LIBRARY = {
    "heapq": {"heappush", "heappop", "heapify", "heapreplace", "heappushpop"},
    "math": {"gcd", "lcm", "isqrt", "comb", "perm", "factorial"},
    "itertools": {"product", "combinations", "permutations", "chain", "accumulate", "pairwise", "islice", "zip_longest"},
    "collections": {"defaultdict", "deque"},
    "__future__": {"annotations"},
}
BUILTINS = set(
    "len range enumerate zip min max sum abs sorted reversed int str bool bytes list tuple dict set frozenset isinstance "
    "ord repr any all divmod pow iter next map type getattr hasattr setattr super property staticmethod classmethod "
    "Exception ValueError TypeError KeyError IndexError LookupError ZeroDivisionError ArithmeticError OverflowError "
    "RuntimeError NotImplementedError AttributeError StopIteration NotImplemented".split())
METHODS = set(
    "append clear copy count endswith extend find get index insert isalnum isalpha isdigit islower isspace isupper items "
    "join keys ljust lower lstrip partition pop remove replace reverse rfind rjust rpartition rsplit rstrip setdefault "
    "split splitlines startswith strip update upper values zfill bit_length title capitalize swapcase casefold center "
    "expandtabs removeprefix removesuffix rindex isascii isdecimal isnumeric istitle isidentifier isprintable sort add "
    "discard popleft appendleft extendleft rotate from_iterable __init__".split())
NOWHERE = {"register", "mro", "elements", "open", "input", "law", "version_info", "with_traceback", "add_note"}
NOT_AS_NAMES = set(
    "attrgetter breakpoint builtins compile copyright credits delattr dir eval exec exit gc globals help id importlib "
    "license locals methodcaller os quit vars sys".split())
NOT_IN_CODE = set(
    "typing typing_extensions enum Enum IntEnum StrEnum Flag IntFlag Generic Protocol ABC ABCMeta namedtuple NamedTuple "
    "TypedDict TYPE_CHECKING abstractmethod".split())
NO_ATTRIBUTES = set(
    "items keys values pop update append clear extend insert remove reverse setdefault sort args encode decode hex fromhex "
    "format format_map mro".split())
STATEMENTS = (
    ast.FunctionDef, ast.ClassDef, ast.Return, ast.Delete, ast.Assign, ast.AugAssign, ast.AnnAssign, ast.For, ast.While,
    ast.If, ast.With, ast.Match, ast.Raise, ast.Try, ast.Assert, ast.ImportFrom, ast.Nonlocal, ast.Global, ast.Expr,
    ast.Pass, ast.Break, ast.Continue)


def files():
    return sorted(name for name in os.listdir(PACKAGE) if name != "__pycache__")


def text_of(name):
    with open(os.path.join(PACKAGE, name), encoding="utf-8") as file:
        return file.read()


def bound_names(tree):
    """The names that are assigned, defined, imported or parameters, anywhere in the file."""
    found = set()
    for node in ast.walk(tree):
        if isinstance(node, ast.Name) and not isinstance(node.ctx, ast.Load):
            found.add(node.id)
        elif isinstance(node, ast.arg):
            found.add(node.arg)
        elif isinstance(node, (ast.FunctionDef, ast.ClassDef)):
            found.add(node.name)
        elif isinstance(node, ast.ImportFrom):
            found.update(alias.asname or alias.name for alias in node.names)
    return found


def method_names(tree):
    return {node.name for owner in ast.walk(tree) if isinstance(owner, ast.ClassDef)
            for node in owner.body if isinstance(node, ast.FunctionDef)}


class LanguageTest(unittest.TestCase):
    @classmethod
    def setUpClass(cls):
        cls.trees = {name: ast.parse(text_of(name)) for name in files()}
        cls.methods = set().union(*[method_names(tree) for tree in cls.trees.values()])

    def nodes(self, *kinds):
        for name, tree in self.trees.items():
            for node in ast.walk(tree):
                if isinstance(node, kinds):
                    yield f"{name}:{getattr(node, 'lineno', 0)}", node

    def test_the_folder_holds_python_files_alone(self):
        for name in files():
            self.assertRegex(name, r"^[a-z_][a-z0-9_]*\.py$")
            self.assertTrue(os.path.isfile(os.path.join(PACKAGE, name)))
        self.assertIn("__init__.py", files())

    def test_sizes_and_signs(self):
        for name in files():
            text = text_of(name)
            self.assertTrue(all(sign == "\n" or " " <= sign <= "~" for sign in text), name)
            self.assertLessEqual(len(text.splitlines()), 399, name)
            self.assertLessEqual(max(map(len, text.splitlines()), default=0), 120, name)
        for where, node in self.nodes(ast.FunctionDef):
            self.assertLessEqual(node.end_lineno - node.lineno + 1, 40, where)

    def test_statements(self):
        for where, node in self.nodes(ast.stmt):
            self.assertIsInstance(node, STATEMENTS, where)
            if isinstance(node, ast.Expr):
                self.assertIsInstance(node.value, (ast.Call, ast.Constant, ast.Yield, ast.YieldFrom), where)

    def test_module_level(self):
        for name, tree in self.trees.items():
            names = []
            for node in tree.body:
                self.assertIsInstance(node, (ast.ImportFrom, ast.FunctionDef, ast.ClassDef, ast.Assign, ast.Expr), name)
                if isinstance(node, ast.Assign):
                    self.assertEqual([target.__class__ for target in node.targets], [ast.Name], name)
                    self.assertFalse([part for part in ast.walk(node.value) if isinstance(part, ast.Call)], name)
                    names.append(node.targets[0].id)
                elif isinstance(node, (ast.FunctionDef, ast.ClassDef)):
                    names.append(node.name)
                elif isinstance(node, ast.ImportFrom):
                    names.extend(alias.asname or alias.name for alias in node.names)
            self.assertEqual(len(names), len(set(names)), name)

    def test_imports(self):
        for where, node in self.nodes(ast.ImportFrom):
            self.assertEqual(node.level, 0, where)
            if node.module in LIBRARY:
                self.assertLessEqual({alias.name for alias in node.names}, LIBRARY[node.module], where)
                continue
            package, _, module = node.module.partition(".")
            self.assertEqual(package, "leanbundle", where)
            self.assertIn(module + ".py", self.trees, where)
            self.assertLessEqual({alias.name for alias in node.names}, self.defined_in(module + ".py"), where)

    def defined_in(self, name):
        found = set()
        for node in self.trees[name].body:
            if isinstance(node, (ast.FunctionDef, ast.ClassDef)):
                found.add(node.name)
            elif isinstance(node, ast.Assign):
                found.add(node.targets[0].id)
        return found

    def test_no_two_files_import_from_each_other(self):
        imports = {name: {node.module.partition(".")[2] + ".py" for node in tree.body
                          if isinstance(node, ast.ImportFrom) and node.module.startswith("leanbundle.")}
                   for name, tree in self.trees.items()}
        left = dict(imports)
        while left:
            free = [name for name in left if not imports[name] & set(left)]
            self.assertTrue(free, sorted(left))
            for name in free:
                del left[name]

    def test_builtins(self):
        for name, tree in self.trees.items():
            bound = bound_names(tree)
            self.assertFalse(bound & set(dir(builtins)) - self.methods, name)
            for node in ast.walk(tree):
                if isinstance(node, ast.Name) and node.id not in bound:
                    self.assertIn(node.id, BUILTINS, f"{name}:{node.lineno}")

    def test_names(self):
        for name, tree in self.trees.items():
            attributes = {node.attr for node in ast.walk(tree) if isinstance(node, ast.Attribute)}
            names = {node.id for node in ast.walk(tree) if isinstance(node, ast.Name)} | bound_names(tree)
            keywords = {node.arg for node in ast.walk(tree) if isinstance(node, ast.keyword)}
            self.assertFalse((names | attributes | keywords) & NOWHERE, name)
            self.assertFalse(names & NOT_AS_NAMES, name)
            for word in names | attributes:
                self.assertFalse(word.startswith("_wall") or word == "_WallAttr", name)
                self.assertFalse(word.startswith("__") and word != "__init__" and word not in self.methods, (name, word))
            code = "\n".join(line.partition("#")[0] for line in text_of(name).splitlines())
            self.assertFalse({word for word in re.findall(r"\w+", code)} & NOT_IN_CODE, name)

    def test_methods_and_attributes(self):
        for where, node in self.nodes(ast.Call):
            if isinstance(node.func, ast.Attribute):
                self.assertIn(node.func.attr, METHODS | self.methods, where)
        for where, node in self.nodes(ast.Attribute):
            if isinstance(node.ctx, ast.Store):
                self.assertNotIn(node.attr, NO_ATTRIBUTES, where)
        for where, node in self.nodes(ast.ClassDef):
            stored = {part.attr for part in ast.walk(node) if isinstance(part, ast.Attribute) and
                      isinstance(part.ctx, ast.Store)}
            self.assertFalse(stored & method_names(ast.Module([node], [])), where)

    def test_names_of_imports_and_classes_are_given_once(self):
        for name, tree in self.trees.items():
            imports = {alias.name for node in tree.body if isinstance(node, ast.ImportFrom) for alias in node.names}
            classes = {node.name for node in tree.body if isinstance(node, ast.ClassDef)}
            others = {node.arg for node in ast.walk(tree) if isinstance(node, ast.arg)}
            others |= {node.id for node in ast.walk(tree) if isinstance(node, ast.Name) and isinstance(node.ctx, ast.Store)}
            used = {node.id for node in ast.walk(tree) if isinstance(node, ast.Name)}
            self.assertFalse((imports | classes) & others, name)
            self.assertLessEqual(imports, used, name)

    def test_no_name_is_a_method_and_an_attribute(self):
        for where, node in self.nodes(ast.Attribute):
            if isinstance(node.ctx, ast.Store):
                self.assertNotIn(node.attr, self.methods, where)

    def test_operators_and_generators(self):
        # The package has a class with an operator and an own equality: these take lists, and an operator changes nothing.
        self.assertFalse(list(self.nodes(ast.GeneratorExp, ast.Yield, ast.YieldFrom, ast.Lambda)))
        for where, node in self.nodes(ast.FunctionDef):
            if node.name.startswith("__") and node.name != "__init__":
                self.assertEqual([part.__class__ for part in node.body], [ast.Return], where)
                self.assertIn(node.name, ("__len__", "__contains__", "__eq__"), where)

    def test_expressions(self):
        for where, node in self.nodes(ast.BinOp, ast.Constant, ast.Compare, ast.FunctionDef):
            if isinstance(node, ast.BinOp):
                self.assertNotIsInstance(node.op, (ast.Div, ast.MatMult), where)
            elif isinstance(node, ast.Constant):
                self.assertNotIsInstance(node.value, (float, complex), where)
            elif isinstance(node, ast.FunctionDef):
                self.assertFalse([default for default in node.args.defaults + node.args.kw_defaults
                                  if isinstance(default, (ast.List, ast.Dict, ast.Set, ast.Call))], where)
            else:
                for operator, right in zip(node.ops, node.comparators):
                    if isinstance(operator, (ast.Is, ast.IsNot)):
                        self.assertIsInstance(right, ast.Constant, where)
                        self.assertIn(right.value, (None, True, False), where)

    def test_strings(self):
        for where, node in self.nodes(ast.Constant):
            if isinstance(node.value, str):
                self.assertNotIn("%", node.value, where)

    def test_files_give_no_warnings(self):
        for name in files():
            with warnings.catch_warnings():
                warnings.simplefilter("error")
                compile(text_of(name), name, "exec")


if __name__ == "__main__":
    unittest.main()
