"""The package keeps to the rules of its language, as far as they can be seen row by row."""

import ast
import builtins
import os
import re
import unittest

FOLDER = os.path.join(os.path.dirname(os.path.dirname(os.path.abspath(__file__))), "lanecross")
LET = set("""len range enumerate zip min max sum abs sorted reversed int str bool list tuple dict set isinstance any all divmod
    ValueError super staticmethod classmethod property""".split())
METHODS = set("""append clear copy count endswith extend find get index insert isalnum isalpha isdigit islower isspace isupper items join keys
    ljust lower lstrip partition pop remove replace reverse rfind rjust rpartition rsplit rstrip setdefault split splitlines startswith strip
    update upper values zfill bit_length isascii removeprefix removesuffix add discard""".split())
DUNDER = {"__init__", "__eq__", "__str__", "__bool__", "__class__", "__name__", "__len__"}
BARRED = set("register mro elements open input law version_info with_traceback add_note type typing enum Flag ABC NamedTuple".split())
NODES = (ast.Global, ast.AsyncFunctionDef, ast.AsyncFor, ast.AsyncWith, ast.Await, ast.Yield, ast.YieldFrom, ast.GeneratorExp, ast.Div,
         ast.NamedExpr, ast.Match, ast.With, ast.Import, ast.Lambda, ast.AnnAssign, ast.Set, ast.TryStar)


def files():
    for name in sorted(os.listdir(FOLDER)):
        if name != "__pycache__":
            with open(os.path.join(FOLDER, name), encoding="utf-8") as stream:
                yield name, stream.read()


class LanguageTest(unittest.TestCase):
    def test_files(self):
        for name, text in files():
            self.assertRegex(name, r"\A[a-z_]+\.py\Z")
            self.assertIsNone(re.search(r"[^ -~\n]", text), name)
            rows = text.split("\n")
            self.assertLessEqual(len(rows), 399, name)
            self.assertLessEqual(max(map(len, rows)), 120, name)
            self.assertNotIn("_wall", text)

    def test_imports_go_one_way(self):
        before = {}
        for name, text in files():
            tree = ast.parse(text)
            found = set()
            for node in ast.walk(tree):
                if isinstance(node, ast.ImportFrom):
                    self.assertEqual(node.level, 0)
                    self.assertTrue(node.module.startswith("lanecross.") or (node.module == "math" and node.names[0].name == "gcd"))
                    self.assertTrue(all(alias.asname is None and alias.name != "*" for alias in node.names))
                    self.check_defined(node)
                    found.add(node.module)
                elif isinstance(node, ast.ExceptHandler):
                    self.check_caught(node)
            before["lanecross." + name[:-3]] = found
        done = {"math"}
        while before:
            ready = [name for name, found in before.items() if found <= done]
            self.assertTrue(ready, before)
            for name in ready:
                done.add(name)
                del before[name]

    def check_caught(self, node):
        """L19: own errors alone are caught, by name; what a handler names is only read by its attributes."""
        names = [part.id for part in (node.type.elts if isinstance(node.type, ast.Tuple) else [node.type])]
        self.assertFalse(set(names) & set(dir(builtins)))
        read = [part.value for part in ast.walk(node) if isinstance(part, ast.Attribute)]
        for part in ast.walk(node):
            if isinstance(part, ast.Name) and part.id == node.name:
                self.assertIn(part, read)

    def check_defined(self, node):
        """A name comes from the very file that defines it."""
        if node.module != "math":
            with open(os.path.join(FOLDER, node.module.split(".")[1] + ".py"), encoding="utf-8") as stream:
                tree = ast.parse(stream.read())
            own = {part.name for part in tree.body if isinstance(part, (ast.FunctionDef, ast.ClassDef))}
            own |= {target.id for part in tree.body if isinstance(part, ast.Assign) for target in part.targets}
            self.assertLessEqual({alias.name for alias in node.names}, own)

    def test_imports_are_used(self):
        for name, text in files():
            tree = ast.parse(text)
            bound = {alias.name for node in tree.body if isinstance(node, ast.ImportFrom) for alias in node.names}
            self.assertLessEqual(bound, {node.id for node in ast.walk(tree) if isinstance(node, ast.Name)}, name)

    def test_nodes(self):
        for name, text in files():
            for node in ast.walk(ast.parse(text)):
                self.assertNotIsInstance(node, NODES, (name, getattr(node, "lineno", 0)))
                if isinstance(node, ast.FunctionDef):
                    self.assertLessEqual(node.end_lineno - node.lineno + 1, 40, (name, node.name))
                    decorators = [part.id for part in node.decorator_list]
                    self.assertIn(decorators, ([], ["staticmethod"]))
                    self.assertTrue(ast.get_docstring(node) or node.name in DUNDER, (name, node.name))
                if isinstance(node, ast.Constant) and isinstance(node.value, float):
                    self.fail((name, node.lineno))
                if isinstance(node, ast.Compare) and isinstance(node.ops[0], (ast.Is, ast.IsNot)):
                    self.assertIsInstance(node.comparators[0], ast.Constant)
                if isinstance(node, ast.Call) and isinstance(node.func, ast.Name) and node.func.id in ("any", "all", "sum", "min", "max", "sorted"):
                    self.assertNotIsInstance(node.args[0], (ast.GeneratorExp, ast.Set, ast.SetComp))
                if isinstance(node, ast.Raise) and node.exc is not None:
                    self.assertIsInstance(node.exc, ast.Call)
                    self.assertTrue(node.exc.func.id[0].isupper())
                if isinstance(node, ast.Call) and node.keywords:
                    self.fail((name, node.lineno))

    def test_module_level(self):
        for name, text in files():
            tree = ast.parse(text)
            self.assertTrue(ast.get_docstring(tree), name)
            for node in tree.body[1:]:
                self.assertIsInstance(node, (ast.ImportFrom, ast.FunctionDef, ast.ClassDef, ast.Assign))
            bound = [node.name for node in tree.body if isinstance(node, (ast.FunctionDef, ast.ClassDef))]
            bound += [alias.name for node in tree.body if isinstance(node, ast.ImportFrom) for alias in node.names]
            self.assertEqual(len(bound), len(set(bound)), name)
            self.check_names(name, tree, set(bound))

    def check_names(self, name, tree, bound):
        for function in [node for node in ast.walk(tree) if isinstance(node, ast.FunctionDef)]:
            local = {arg.arg for arg in [*function.args.args, function.args.vararg] if arg is not None}
            local |= {node.id for node in ast.walk(function) if isinstance(node, ast.Name) and isinstance(node.ctx, ast.Store)}
            self.assertFalse(local & (bound | BARRED | set(dir(builtins))), (name, function.name))
            self.assertNotIn(function.name, BARRED | (set(dir(builtins)) - {"__init__"}))
        for node in ast.walk(tree):
            if isinstance(node, ast.Name) and isinstance(node.ctx, ast.Load) and hasattr(builtins, node.id):
                self.assertIn(node.id, LET, (name, node.lineno))
            if isinstance(node, ast.Attribute) and node.attr.startswith("__"):
                self.assertIn(node.attr, DUNDER)

    def test_methods(self):
        own, stored = set(), set()
        trees = [ast.parse(text) for _, text in files()]
        for tree in trees:
            for node in ast.walk(tree):
                if isinstance(node, ast.ClassDef):
                    own |= {part.name for part in node.body if isinstance(part, ast.FunctionDef)}
                if isinstance(node, ast.ClassDef):
                    stored |= {part.attr for part in ast.walk(node) if isinstance(part, ast.Attribute) and isinstance(part.ctx, ast.Store)}
        self.check_methods_and_attributes(trees, own & stored)
        self.assertFalse((own | stored) & {name for kind in (str, int, list, dict, set, bytes) for name in dir(kind)} - DUNDER)
        for tree in trees:
            for node in ast.walk(tree):
                if isinstance(node, ast.Call) and isinstance(node.func, ast.Attribute):
                    self.assertIn(node.func.attr, METHODS | own | DUNDER)
                if isinstance(node, ast.Attribute) and isinstance(node.ctx, ast.Store):
                    self.assertIn(node.attr, stored)
                if isinstance(node, ast.Attribute) and isinstance(node.ctx, ast.Load):
                    self.assertIn(node.attr, METHODS | own | stored | DUNDER)

    def check_methods_and_attributes(self, trees, both):
        """L18: a name may be a method of one class and an attribute of another one, if no method is read off a class."""
        self.assertEqual(both, {"run"})
        classes = {node.name: node for tree in trees for node in ast.walk(tree) if isinstance(node, ast.ClassDef)}
        for node in classes.values():
            family = [node, *[classes[base.id] for base in node.bases if base.id in classes]]
            own = {part.name for one in family for part in one.body if isinstance(part, ast.FunctionDef)}
            stored = {part.attr for one in family for part in ast.walk(one)
                      if isinstance(part, ast.Attribute) and isinstance(part.ctx, ast.Store) and isinstance(part.value, ast.Name) and part.value.id == "self"}
            self.assertFalse(own & stored, node.name)
        for tree in trees:
            for node in ast.walk(tree):
                if isinstance(node, ast.Attribute) and isinstance(node.value, ast.Name):
                    self.assertNotIn(node.value.id, classes)

    def test_texts_and_lengths(self):
        """L28: what stands behind each return of these methods, and a return stands last."""
        kinds = {"__str__": self.is_text, "__repr__": self.is_text, "__len__": self.is_length}
        for name, text in files():
            for node in ast.walk(ast.parse(text)):
                if isinstance(node, ast.FunctionDef) and node.name in kinds:
                    self.assertIsInstance(node.body[-1], ast.Return, (name, node.lineno))
                    for part in ast.walk(node):
                        if isinstance(part, ast.Return):
                            self.assertTrue(kinds[node.name](part.value), (name, part.lineno))

    def is_text(self, node):
        if isinstance(node, ast.Call) and isinstance(node.func, ast.Name):
            return node.func.id in ("str", "repr")
        if isinstance(node, ast.Call) and isinstance(node.func, ast.Attribute):
            return node.func.attr == "join" and isinstance(node.func.value, ast.Constant)
        return isinstance(node, ast.JoinedStr) or isinstance(node, ast.Constant) and isinstance(node.value, str)

    def is_length(self, node):
        if isinstance(node, ast.Call):
            return isinstance(node.func, ast.Name) and node.func.id == "len"
        return isinstance(node, ast.Constant) and isinstance(node.value, int)

    def test_strings(self):
        for name, text in files():
            for node in ast.walk(ast.parse(text)):
                if isinstance(node, ast.Constant) and isinstance(node.value, str):
                    self.assertNotIn("%", node.value)
                    self.assertNotIn("\\", node.value)
                    self.assertNotIn("__", node.value)


if __name__ == "__main__":
    unittest.main()
