"""The package keeps to the part of Python it is held to, as far as plain looking tells.

What is allowed but not used so far (f-strings, error classes) is left out here till it is needed.
"""

import ast
import builtins
import pathlib
import re
import unittest

PACKAGE = pathlib.Path(__file__).resolve().parent.parent / "mostfavoured"

STATEMENTS = (ast.Module, ast.ImportFrom, ast.FunctionDef, ast.ClassDef, ast.Assign, ast.AugAssign, ast.If, ast.While,
              ast.For, ast.Return, ast.Break, ast.Continue, ast.Pass, ast.Raise, ast.Try, ast.ExceptHandler, ast.Expr)
EXPRESSIONS = (ast.BinOp, ast.UnaryOp, ast.BoolOp, ast.Compare, ast.IfExp, ast.Call, ast.Attribute, ast.Subscript,
               ast.Slice, ast.ListComp, ast.comprehension, ast.Name, ast.Constant, ast.List, ast.Tuple, ast.Dict,
               ast.Lambda, ast.keyword)
PARTS = (ast.arguments, ast.arg, ast.alias, ast.operator, ast.unaryop, ast.boolop, ast.cmpop, ast.expr_context)
OWN_NAMES = """len range enumerate zip min max sum abs sorted reversed int str bool list tuple dict set frozenset
isinstance ord repr any all divmod""".split()
FORBIDDEN_WORDS = r"\b(type|typing|typing_extensions|enum|Enum|Flag|Generic|Protocol|ABC|namedtuple|NamedTuple)\b"
METHODS = """append clear copy count endswith extend find get index insert items join keys pop remove replace reverse
setdefault split startswith strip update values bit_length""".split()


def files():
    return sorted(path for path in PACKAGE.rglob("*") if path.is_file() and "__pycache__" not in path.parts)


class Language(unittest.TestCase):
    def test_only_files_of_python_with_plain_names(self):
        self.assertIn(PACKAGE / "__init__.py", files())
        for path in files():
            self.assertRegex(path.name, r"^(__init__|__main__|[a-z][a-z0-9_]*)\.py$")

    def test_signs_sizes_and_words(self):
        for path in files():
            text = path.read_text(encoding="utf-8")
            self.assertTrue(all(sign == "\n" or " " <= sign <= "~" for sign in text), path)
            self.assertLessEqual(len(text.splitlines()), 400, path)
            self.assertLessEqual(max(len(line) for line in text.splitlines()), 120, path)
            self.assertIsNone(re.search(FORBIDDEN_WORDS, text), path)

    def test_every_step_is_of_the_allowed_kinds(self):
        for path in files():
            for node in ast.walk(ast.parse(path.read_text(encoding="utf-8"))):
                where = (path.name, getattr(node, "lineno", None), node)
                self.assertIsInstance(node, STATEMENTS + EXPRESSIONS + PARTS, where)
                self.check_one(node, where)

    def check_one(self, node, where):
        if isinstance(node, ast.FunctionDef):
            self.assertLessEqual(node.end_lineno - node.lineno + 1, 40, where)
            self.assertEqual(node.decorator_list, [], where)
            self.assertIsNone(node.args.vararg or node.args.kwarg, where)
            self.assertEqual(node.args.kwonlyargs, [], where)
        if isinstance(node, ast.Assign):
            self.assertEqual(len(node.targets), 1, where)
            self.assertNotIsInstance(node.targets[0], (ast.Tuple, ast.List), where)
        if isinstance(node, ast.Constant):
            self.assertNotIsInstance(node.value, (float, bytes, complex), where)
        if isinstance(node, ast.ListComp):
            self.assertEqual(len(node.generators), 1, where)
            self.assertLessEqual(len(node.generators[0].ifs), 1, where)
        if isinstance(node, (ast.For, ast.While)):
            self.assertEqual(node.orelse, [], where)
        if isinstance(node, ast.ImportFrom):
            self.assertEqual(node.level, 0, where)
            self.assertTrue(node.module.startswith("mostfavoured."), where)
        if isinstance(node, ast.Compare) and isinstance(node.ops[0], (ast.Is, ast.IsNot)):
            self.assertIn(ast.unparse(node.comparators[0]), ("None", "True", "False"), where)
        self.assertNotIsInstance(node, ast.Div, where)

    def test_names_are_the_programs_own_or_allowed(self):
        for path in files():
            tree = ast.parse(path.read_text(encoding="utf-8"))
            nodes = list(ast.walk(tree))
            bound = {node.id for node in nodes if isinstance(node, ast.Name) and isinstance(node.ctx, ast.Store)}
            bound |= {node.arg for node in nodes if isinstance(node, ast.arg)}
            bound |= {node.name for node in nodes if isinstance(node, (ast.FunctionDef, ast.ClassDef))}
            imported = {alias.name for node in nodes if isinstance(node, ast.ImportFrom) for alias in node.names}
            used = {node.id for node in nodes if isinstance(node, ast.Name)}
            self.assertEqual(used - bound - imported - set(OWN_NAMES), set(), path)
            self.assertEqual(imported - used, set(), path)
            self.assertEqual(bound & (imported | set(dir(builtins))), set(), path)
            self.assertEqual([name for name in bound if name.startswith("_") and name != "__init__"], [], path)

    def test_methods_called_are_the_classes_own_or_allowed(self):
        trees = [ast.parse(path.read_text(encoding="utf-8")) for path in files()]
        nodes = [node for tree in trees for node in ast.walk(tree)]
        classes = [node for node in nodes if isinstance(node, ast.ClassDef)]
        own = {part.name for node in classes for part in node.body if isinstance(part, ast.FunctionDef)}
        called = {node.func.attr for node in nodes if isinstance(node, ast.Call) and isinstance(node.func, ast.Attribute)}
        self.assertEqual(called - own - set(METHODS), set())
        kept = {node.attr for node in nodes if isinstance(node, ast.Attribute) and isinstance(node.ctx, ast.Store)}
        self.assertEqual(own & kept, set())
        for native in (str, int, list, dict, set, bytes, tuple):
            self.assertEqual((own - {"__init__"} | kept) & set(dir(native)), set())


if __name__ == "__main__":
    unittest.main()
