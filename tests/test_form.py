"""The form of the package: what of ../shared/LANGUAGE.md can be read off the files."""

import ast
import builtins
import os
import re
import unittest

HERE = os.path.dirname(os.path.abspath(__file__))
FOLDER = os.path.join(os.path.dirname(HERE), "sparedproducts")
BUILTINS = {"len", "range", "enumerate", "zip", "min", "max", "sum", "abs", "sorted", "int", "str", "bool", "list",
            "tuple", "dict", "set", "isinstance", "any", "all", "divmod", "iter", "reversed", "ValueError"}
WORDS = ("type", "typing", "enum", "Enum", "Flag", "Generic", "Protocol", "ABC", "namedtuple", "dataclass", "overload",
         "contextmanager", "register", "mro", "elements", "open", "input", "law", "_wall")
METHODS = {"append", "insert", "items", "values", "keys", "get", "count", "setdefault", "join", "split", "startswith",
           "partition", "zfill"}
GENERATORS = {"lying_programs", "filter_stretches", "all_cut_outs", "fewest_lots"}
PROPERTIES = {"log"}
UNDERSCORED = {"__init__", "__eq__", "__len__", "__iter__", "__call__"}
STATEMENTS = (ast.Expr, ast.Assign, ast.AugAssign, ast.If, ast.While, ast.For, ast.Return, ast.Break, ast.Continue,
              ast.Pass, ast.Raise, ast.Try, ast.FunctionDef, ast.ClassDef, ast.ImportFrom)


def sources():
    found = {}
    for name in sorted(os.listdir(FOLDER)):
        if name != "__pycache__":
            with open(os.path.join(FOLDER, name), encoding="ascii") as file:
                found[name] = file.read()
    return found


def names_bound(tree):
    """All parameters, local variables, functions and classes."""
    for node in ast.walk(tree):
        if isinstance(node, ast.arg):
            yield node.arg
        elif isinstance(node, ast.Name) and isinstance(node.ctx, ast.Store):
            yield node.id
        elif isinstance(node, (ast.FunctionDef, ast.ClassDef)):
            yield node.name
        elif isinstance(node, ast.ExceptHandler) and node.name is not None:
            yield node.name


class FormTest(unittest.TestCase):

    @classmethod
    def setUpClass(cls):
        cls.sources = sources()
        cls.trees = {name: ast.parse(text) for name, text in cls.sources.items()}

    def nodes(self, *kinds):
        for name, tree in self.trees.items():
            for node in ast.walk(tree):
                if isinstance(node, kinds):
                    yield name, node

    def test_files_and_lines(self):
        self.assertEqual(len(self.trees["__init__.py"].body), 1)
        for name, text in self.sources.items():
            self.assertRegex(name, r"^[a-z_]+\.py$")
            lines = text.split("\n")
            self.assertLessEqual(len(lines), 399, name)
            self.assertTrue(all(len(line) <= 120 for line in lines), name)
            self.assertTrue(all(sign == "\n" or " " <= sign <= "~" for sign in text), name)

    def test_functions_are_short_and_told(self):
        for name, node in self.nodes(ast.FunctionDef):
            self.assertLessEqual(node.end_lineno - node.lineno + 1, 40, (name, node.name))
            self.assertEqual([kind.id for kind in node.decorator_list], ["property"] * (node.name in PROPERTIES))
            if not node.name.startswith("_"):
                self.assertTrue(ast.get_docstring(node), (name, node.name))

    def test_statements(self):
        for name, node in self.nodes(ast.stmt):
            self.assertIsInstance(node, STATEMENTS, (name, node.lineno))
        for name, node in self.nodes(ast.GeneratorExp, ast.SetComp, ast.Lambda, ast.Starred, ast.Set,
                                     ast.Div, ast.JoinedStr, ast.AnnAssign, ast.NamedExpr):
            self.fail((name, node.lineno if hasattr(node, "lineno") else node))
        for name, node in self.nodes(ast.BinOp):
            if isinstance(node.op, ast.Pow):
                self.assertLessEqual(node.right.value, 64, name)
        for name, node in self.nodes(ast.Constant):
            self.assertNotIsInstance(node.value, (float, complex, bytes), name)

    def test_imports(self):
        defined = {name: {node.name for node in tree.body if isinstance(node, (ast.FunctionDef, ast.ClassDef))}
                   | {target.id for node in tree.body if isinstance(node, ast.Assign) for target in node.targets}
                   for name, tree in self.trees.items()}
        needs = {}
        for name, node in self.nodes(ast.ImportFrom):
            self.assertIn(node, self.trees[name].body)
            self.assertEqual(node.level, 0)
            if node.module == "math":
                self.assertEqual([alias.name for alias in node.names], ["gcd"])
                continue
            self.assertRegex(node.module, r"^sparedproducts\.[a-z]+$")
            file = node.module.split(".")[1] + ".py"
            needs.setdefault(name, set()).add(file)
            for alias in node.names:
                self.assertIsNone(alias.asname)
                self.assertIn(alias.name, defined[file], (name, alias.name))
                used = [n for n in ast.walk(self.trees[name]) if isinstance(n, ast.Name) and n.id == alias.name]
                self.assertTrue(used, (name, alias.name))
        while needs:
            free = [name for name in needs if not any(file in needs for file in needs[name])]
            self.assertTrue(free, needs)
            for name in free:
                del needs[name]

    def test_each_name_is_bound_once_in_the_package(self):
        found = {}
        for name, tree in self.trees.items():
            for node in tree.body:
                if isinstance(node, (ast.FunctionDef, ast.ClassDef)):
                    self.assertNotIn(node.name, found)
                    found[node.name] = name

    def test_names(self):
        classes = {node.name for _, node in self.nodes(ast.ClassDef)}
        for name, tree in self.trees.items():
            imported = {alias.name for node in tree.body if isinstance(node, ast.ImportFrom) for alias in node.names}
            functions = {node.name for node in tree.body if isinstance(node, ast.FunctionDef)}
            for bound in names_bound(tree):
                self.assertFalse(hasattr(builtins, bound) and bound not in UNDERSCORED, (name, bound))
                self.assertNotIn(bound, imported, name)
                if bound.startswith("__"):
                    self.assertIn(bound, UNDERSCORED)
            for node in ast.walk(tree):
                if isinstance(node, (ast.arg, ast.Name)) and not isinstance(getattr(node, "ctx", None), ast.Load):
                    bound = node.arg if isinstance(node, ast.arg) else node.id
                    self.assertNotIn(bound, classes | functions, name)

    def test_words(self):
        for name, tree in self.trees.items():
            for node in ast.walk(tree):
                for word in [getattr(node, field, None) for field in ("id", "attr", "arg", "name")]:
                    self.assertNotIn(word, WORDS, name)
                if isinstance(node, ast.Constant) and isinstance(node.value, str):
                    self.assertNotIn("%", node.value)
                    self.assertIsNone(re.search(r"_wall|_WallAttr", node.value))

    def test_calls(self):
        for name, tree in self.trees.items():
            known = set(names_bound(tree)) | {alias.name for node in tree.body if isinstance(node, ast.ImportFrom)
                                              for alias in node.names}
            for node in ast.walk(tree):
                if isinstance(node, ast.Name) and isinstance(node.ctx, ast.Load) and node.id not in known:
                    self.assertIn(node.id, BUILTINS | ({"property"} if name == "bench.py" else set()), (name, node.lineno))

    def test_generators_are_iterated_at_once(self):
        found = {node.name for _, node in self.nodes(ast.FunctionDef)
                 if any(isinstance(inner, (ast.Yield, ast.YieldFrom)) for inner in ast.walk(node))}
        self.assertEqual(found, GENERATORS)
        for name, tree in self.trees.items():
            loops = [node.iter.func for node in ast.walk(tree)
                     if isinstance(node, ast.For) and isinstance(node.iter, ast.Call)]
            for node in ast.walk(tree):
                if isinstance(node, ast.Name) and node.id in GENERATORS:
                    self.assertIn(node, loops, name)

    def test_objects_that_are_called_have_a_name(self):
        for name, node in self.nodes(ast.Call):
            self.assertIsInstance(node.func, (ast.Name, ast.Attribute), (name, node.lineno))

    def test_methods_and_attributes(self):
        attributes = {node.attr for _, node in self.nodes(ast.Attribute) if isinstance(node.ctx, ast.Store)}
        methods = {node.name for _, kind in self.nodes(ast.ClassDef) for node in kind.body
                   if isinstance(node, ast.FunctionDef)}
        for name, node in self.nodes(ast.Attribute):
            if isinstance(node.ctx, ast.Load):
                self.assertIn(node.attr, attributes | methods | METHODS, (name, node.lineno))
        for thing in ("", 0, [], {}, set(), b""):
            for attribute in attributes | {method for method in methods if not method.startswith("_")}:
                self.assertFalse(hasattr(thing, attribute) and attribute != "index", attribute)

    def test_handlers_name_own_errors(self):
        for name, node in self.nodes(ast.ExceptHandler):
            kinds = node.type.elts if isinstance(node.type, ast.Tuple) else [node.type]
            for kind in kinds:
                self.assertIn(kind.id, self.sources["errors.py"])
                self.assertNotIn(kind.id, ("ValueError", "PairError"), name)


if __name__ == "__main__":
    unittest.main()
