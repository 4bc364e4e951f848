"""Rules of the language of the package that can be seen in its text."""

import ast
import pathlib
import string
import unittest

PACKAGE = pathlib.Path(__file__).resolve().parent.parent / "usescale"

BUILTINS = set("""len range enumerate zip min max sum abs sorted reversed int str bool bytes list tuple dict set
isinstance ord repr any all divmod Exception ValueError TypeError KeyError IndexError LookupError ZeroDivisionError
NotImplementedError NotImplemented""".split())

METHODS = set("""append clear copy count endswith extend find get index insert isalnum isalpha isdigit islower isspace
isupper items join keys ljust lower lstrip partition pop remove replace reverse rfind rjust rpartition rsplit rstrip
setdefault split splitlines startswith strip update upper values zfill bit_length isascii isdecimal""".split())

LIBRARY = {"math": {"gcd", "lcm", "isqrt", "comb"}}

# The rules allow some of these under conditions. The package does without them, so no condition needs a look.
BARRED_NODES = (ast.Global, ast.AsyncFunctionDef, ast.Await, ast.Div, ast.AugAssign, ast.GeneratorExp, ast.Match,
                ast.With, ast.Set, ast.SetComp, ast.NamedExpr, ast.Yield, ast.YieldFrom)

BARRED_NAMES = set("""register mro elements open input law version_info type id compile eval exec exit dir vars globals
locals help copyright credits license quit gc os sys builtins breakpoint delattr""".split())

BARRED_WORDS = set("""type typing enum Enum Generic Protocol ABC dataclass overload contextmanager namedtuple
metaclass""".split())


def files():
    return sorted(PACKAGE.glob("*.py"))


def trees():
    return [(path, ast.parse(path.read_text())) for path in files()]


def functions_of(tree):
    return [node for node in ast.walk(tree) if isinstance(node, ast.FunctionDef)]


def docstrings_of(tree):
    holders = [node for node in ast.walk(tree) if isinstance(node, (ast.Module, ast.ClassDef, ast.FunctionDef))]
    return {id(node.body[0].value) for node in holders if ast.get_docstring(node) is not None}


class LanguageTest(unittest.TestCase):
    def test_the_folder_holds_only_files_of_the_program(self):
        names = [path.name for path in PACKAGE.iterdir() if path.name != "__pycache__"]
        self.assertTrue(all(name.endswith(".py") and name == name.lower() for name in names), names)
        self.assertIn("__init__.py", names)

    def test_sizes_and_characters(self):
        allowed = set(string.printable) - set("\t\r\x0b\x0c")
        for path in files():
            text = path.read_text()
            self.assertLessEqual(set(text), allowed, path)
            self.assertLessEqual(len(text.splitlines()), 399, path)
            self.assertLessEqual(max([len(line) for line in text.splitlines()]), 120, path)
            for node in functions_of(ast.parse(text)):
                self.assertLessEqual(node.end_lineno - node.lineno + 1, 40, (path, node.name))

    def test_imports(self):
        for path, tree in trees():
            for node in ast.walk(tree):
                self.assertNotIsInstance(node, ast.Import, path)
                if not isinstance(node, ast.ImportFrom):
                    continue
                self.assertIn(node, tree.body)
                for alias in node.names:
                    self.assertIsNone(alias.asname)
                    if node.module in LIBRARY:
                        self.assertIn(alias.name, LIBRARY[node.module])
                    else:
                        self.assertTrue(node.module.startswith("usescale."), path)
                        source = ast.parse((PACKAGE / f"{node.module.split('.')[1]}.py").read_text())
                        self.assertIn(alias.name, self.names_bound(source))

    def names_bound(self, tree):
        found = set()
        for node in tree.body:
            if isinstance(node, (ast.FunctionDef, ast.ClassDef)):
                found.add(node.name)
            elif isinstance(node, ast.Assign):
                found.add(node.targets[0].id)
        return found

    def test_module_level(self):
        allowed = (ast.ImportFrom, ast.FunctionDef, ast.ClassDef, ast.Assign)
        for path, tree in trees():
            for node in tree.body[1:]:
                self.assertIsInstance(node, allowed, (path, node.lineno))

    def test_statements_and_expressions(self):
        for path, tree in trees():
            for node in ast.walk(tree):
                where = (path.name, getattr(node, "lineno", 0), type(node).__name__)
                self.assertNotIsInstance(node, BARRED_NODES, where)
                if isinstance(node, ast.Compare) and isinstance(node.ops[0], (ast.Is, ast.IsNot)):
                    self.assertIsInstance(node.comparators[0], ast.Constant, where)
                if isinstance(node, ast.BinOp) and isinstance(node.op, ast.Pow):
                    self.assertIsInstance(node.right, ast.Constant, where)
                    self.assertLessEqual(node.right.value, 64, where)

    def test_only_own_errors_are_caught_around_one_call_of_an_own_function(self):
        errors = {node.name for node in ast.parse((PACKAGE / "errors.py").read_text()).body[1:]}
        for path, tree in trees():
            own = {node.name for node in tree.body if isinstance(node, ast.FunctionDef)}
            for node in ast.walk(tree):
                if not isinstance(node, ast.Try) or node.finalbody:
                    continue
                self.assertEqual((len(node.body), len(node.handlers)), (1, 1), path)
                self.assertIn(node.body[0].value.func.id, own)
                handler = node.handlers[0]
                caught = handler.type.elts if isinstance(handler.type, ast.Tuple) else [handler.type]
                self.assertLessEqual({name.id for name in caught}, errors, path)

    def test_what_is_done_finally(self):
        """A finally holds tests for None and assignments of names and attributes, and no handler stands beside it."""
        plain = (ast.Name, ast.Attribute, ast.Constant)
        for path, tree in trees():
            for node in ast.walk(tree):
                if not isinstance(node, ast.Try) or not node.finalbody:
                    continue
                self.assertEqual(node.handlers, [], path)
                for test in node.finalbody:
                    self.assertIsInstance(test, ast.If)
                    self.assertIsInstance(test.test, ast.Compare)
                    self.assertIsInstance(test.test.ops[0], (ast.Is, ast.IsNot))
                    for row in test.body + test.orelse:
                        self.assertIsInstance(row, ast.Assign)
                        for side in row.targets + [row.value]:
                            for part in side.elts if isinstance(side, ast.Tuple) else [side]:
                                self.assertIsInstance(part, plain)

    def test_properties(self):
        """The name of a property is no plain method's and no attribute's, whatever the class is."""
        properties, others = set(), set()
        for _, tree in trees():
            for node in functions_of(tree):
                decorators = {part.id for part in node.decorator_list if isinstance(part, ast.Name)}
                (properties if "property" in decorators else others).add(node.name)
            others |= {node.attr for node in ast.walk(tree)
                       if isinstance(node, ast.Attribute) and isinstance(node.ctx, ast.Store)}
        self.assertFalse(properties & others)

    def test_what_compares_and_shows_assigns_nothing(self):
        for path, tree in trees():
            for node in functions_of(tree):
                if node.name in ("__eq__", "__len__", "__str__", "__repr__"):
                    stored = [part for part in ast.walk(node) if isinstance(getattr(part, "ctx", None), ast.Store)]
                    loops = [part.id for part in stored if isinstance(part, ast.Name)]
                    targets = [part.target.id for part in ast.walk(node) if isinstance(part, ast.comprehension)]
                    self.assertEqual(loops, targets, (path, node.name))
                    self.assertEqual(len(stored), len(loops), (path, node.name))

    def test_no_table_of_a_module_is_passed_on(self):
        for path, tree in trees():
            tables = {node.targets[0].id for node in tree.body
                      if isinstance(node, ast.Assign) and isinstance(node.value, (ast.Dict, ast.List))}
            tables |= {alias.name for node in tree.body if isinstance(node, ast.ImportFrom) for alias in node.names
                       if isinstance(self.values_of(node.module).get(alias.name), (ast.Dict, ast.List))}
            read = set()
            for node in ast.walk(tree):
                if isinstance(node, (ast.Subscript, ast.Attribute)):
                    read.add(id(node.value))
                if isinstance(node, ast.Compare):
                    read |= {id(right) for right in node.comparators}
                if isinstance(node, (ast.For, ast.comprehension)):
                    read.add(id(node.iter))
            for node in ast.walk(tree):
                if isinstance(node, ast.Name) and node.id in tables and isinstance(node.ctx, ast.Load):
                    self.assertIn(id(node), read, (path, node.lineno))

    def values_of(self, module):
        """What the module-level names of a file of the package are assigned."""
        path = PACKAGE / f"{module.split('.')[-1]}.py"
        body = ast.parse(path.read_text()).body if module.startswith("usescale.") else []
        return {node.targets[0].id: node.value for node in body if isinstance(node, ast.Assign)}

    def test_names(self):
        for path, tree in trees():
            bound = self.names_bound(tree)
            bound |= {alias.name for node in tree.body if isinstance(node, ast.ImportFrom) for alias in node.names}
            for holder in functions_of(tree):
                local = {node.arg for node in ast.walk(holder) if isinstance(node, ast.arg)}
                local |= {node.id for node in ast.walk(holder)
                          if isinstance(node, ast.Name) and isinstance(node.ctx, ast.Store)}
                local |= {node.name for node in ast.walk(holder) if isinstance(node, ast.ExceptHandler) and node.name}
                self.assertFalse(local & (bound | BUILTINS | BARRED_NAMES), (path, holder.name))
                for node in [part for row in holder.body for part in ast.walk(row)]:
                    if isinstance(node, ast.Name) and isinstance(node.ctx, ast.Load):
                        self.assertIn(node.id, local | bound | BUILTINS, (path, node.lineno))

    def test_methods(self):
        own = {node.name for _, tree in trees() for node in functions_of(tree)}
        for path, tree in trees():
            for node in ast.walk(tree):
                if isinstance(node, ast.Call) and isinstance(node.func, ast.Attribute):
                    self.assertIn(node.func.attr, own | METHODS | {"__init__"}, (path, node.lineno))

    def test_no_name_is_a_method_and_an_attribute(self):
        methods, attributes = set(), set()
        for _, tree in trees():
            for found in ast.walk(tree):
                if isinstance(found, ast.ClassDef):
                    methods |= {node.name for node in found.body if isinstance(node, ast.FunctionDef)}
                if isinstance(found, ast.Attribute) and isinstance(found.ctx, ast.Store):
                    attributes.add(found.attr)
        self.assertFalse(methods & attributes)
        self.assertFalse(attributes & (METHODS - {"count", "index", "find", "get", "join", "split", "copy"}))

    def test_strings(self):
        for path, tree in trees():
            told = docstrings_of(tree)
            for node in ast.walk(tree):
                if isinstance(node, ast.Constant) and isinstance(node.value, str) and id(node) not in told:
                    self.assertNotIn("%", node.value, (path, node.lineno))
                    self.assertFalse(set(node.value.split()) & BARRED_WORDS, (path, node.lineno))


if __name__ == "__main__":
    unittest.main()
