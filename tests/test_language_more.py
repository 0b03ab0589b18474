"""More rules of the part of Python that the package keeps to; some are held by not using what they narrow."""

import ast
import unittest

from tests.test_language import METHODS, OWN_NAMES, files

NOT_USED = (ast.Try, ast.Raise, ast.Lambda, ast.Pow, ast.JoinedStr, ast.Set)
CHANGES = ("append", "clear", "extend", "insert", "pop", "remove", "reverse", "setdefault", "update")
WALKERS = ("enumerate", "zip", "reversed")
VALUES_ALLOWED = set("count index title find get join lower upper split strip copy add".split())
PYTHONS_OWN = {name for kind in (str, int, list, tuple, dict, set, frozenset, bytes) for name in dir(kind)}


def called(node):
    return node.func.id if isinstance(node, ast.Call) and isinstance(node.func, ast.Name) else None


def walked(node):
    """What a loop walks, itself or through enumerate, zip, reversed, items."""
    if called(node) in WALKERS:
        return [part for one in node.args for part in walked(one)]
    if isinstance(node, ast.Call) and isinstance(node.func, ast.Attribute) and not node.args:
        return [ast.unparse(node.func.value)]
    return [ast.unparse(node)]


def changed(node):
    """What a statement's parts change, by a method or an index."""
    for part in ast.walk(node):
        if isinstance(part, ast.Call) and isinstance(part.func, ast.Attribute) and part.func.attr in CHANGES:
            yield ast.unparse(part.func.value)
        if isinstance(part, ast.Subscript) and isinstance(part.ctx, ast.Store):
            yield ast.unparse(part.value)


class MoreLanguage(unittest.TestCase):
    def setUp(self):
        self.trees = {path.name: ast.parse(path.read_text(encoding="utf-8")) for path in files()}

    def nodes(self, *kinds):
        for name, tree in self.trees.items():
            for node in ast.walk(tree):
                if isinstance(node, kinds):
                    yield f"{name}:{getattr(node, 'lineno', 0)}", node

    def test_not_used_at_all(self):
        self.assertEqual([where for where, node in self.nodes(*NOT_USED)], [])
        for where, node in self.nodes(ast.FunctionDef):
            within = [part for part in ast.walk(node) if isinstance(part, ast.FunctionDef)]
            self.assertEqual(within, [node], where)

    def test_no_annotations(self):
        for where, node in self.nodes(ast.FunctionDef):
            self.assertIsNone(node.returns, where)
        for where, node in self.nodes(ast.arg):
            self.assertIsNone(node.annotation, where)

    def test_is_stands_beside_none_alone(self):
        for where, node in self.nodes(ast.Compare):
            for sign, right in zip(node.ops, node.comparators):
                if isinstance(sign, (ast.Is, ast.IsNot)):
                    self.assertTrue(isinstance(right, ast.Constant) and right.value in (None, True, False), where)

    def test_keywords(self):
        for where, node in self.nodes(ast.Call):
            if node.keywords:
                self.assertIn(called(node), ("sorted", "min", "max"), where)
                self.assertEqual([keyword.arg for keyword in node.keywords], ["key"], where)

    def test_own_names_of_python_are_called(self):
        functions = [node.func for where, node in self.nodes(ast.Call)]
        for where, node in self.nodes(ast.Name):
            if node.id in OWN_NAMES:
                self.assertIn(node, functions, where)

    def test_classes_are_called(self):
        classes = {node.name for where, node in self.nodes(ast.ClassDef)}
        functions = [node.func for where, node in self.nodes(ast.Call)]
        for where, node in self.nodes(ast.Name):
            if node.id in classes:
                self.assertIn(node, functions, where)

    def test_init_alone_and_it_gives_back_nothing(self):
        for where, node in self.nodes(ast.FunctionDef):
            if node.name.startswith("__"):
                self.assertEqual(node.name, "__init__", where)
                self.assertFalse([part for part in ast.walk(node) if isinstance(part, ast.Return)], where)

    def test_names_of_methods_and_values(self):
        for where, node in self.nodes(ast.ClassDef):
            methods = [part.name for part in node.body if isinstance(part, ast.FunctionDef)]
            self.assertEqual(len(methods), len(set(methods)), where)
            for name in methods:
                self.assertTrue(name not in PYTHONS_OWN or name in METHODS or name == "__init__", (where, name))
        for where, node in self.nodes(ast.Attribute):
            if isinstance(node.ctx, ast.Store):
                self.assertTrue(node.attr not in PYTHONS_OWN or node.attr in VALUES_ALLOWED, (where, node.attr))
                self.assertIsInstance(node.value, ast.Name, where)

    def test_what_a_loop_walks_is_not_changed_in_it(self):
        for where, node in self.nodes(ast.For):
            changes = [one for part in node.body for one in changed(part)]
            self.assertEqual(set(walked(node.iter)) & set(changes), set(), where)

    def test_values_of_a_files_top_are_not_changed(self):
        for name, tree in self.trees.items():
            top = {node.targets[0].id for node in tree.body if isinstance(node, ast.Assign)}
            self.assertEqual(top & {one for node in tree.body for one in changed(node)}, set(), name)

    def test_texts(self):
        for where, node in self.nodes(ast.Constant):
            if isinstance(node.value, str):
                self.assertNotIn("%", node.value, where)
                self.assertNotIn("\\", node.value, where)


if __name__ == "__main__":
    unittest.main()
