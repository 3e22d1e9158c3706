"""The package keeps to the small part of the language; the numbers are those of the rules."""

import ast
import builtins
import os
import re
import unittest

PACKAGE = os.path.join(os.path.dirname(os.path.dirname(os.path.abspath(__file__))), "netmeeting")

NODES = (
    ast.Module, ast.FunctionDef, ast.arguments, ast.arg, ast.Lambda, ast.Return, ast.Assign, ast.AugAssign, ast.If,
    ast.While, ast.For, ast.Break, ast.Continue, ast.Pass, ast.Expr, ast.Constant, ast.List, ast.Tuple, ast.Dict,
    ast.BinOp, ast.UnaryOp, ast.BoolOp, ast.Compare, ast.IfExp, ast.Call, ast.Attribute, ast.Subscript, ast.Slice,
    ast.ListComp, ast.comprehension, ast.Name, ast.keyword, ast.expr_context, ast.boolop, ast.unaryop, ast.cmpop,
    ast.operator,
)
OWN_NAMES = (
    "len range enumerate zip min max sum abs sorted reversed int str bool list tuple dict isinstance ord any all divmod"
).split()
METHODS = "append copy count extend get index insert items keys pop remove reverse setdefault update values".split()
CHANGES = "append extend insert pop remove reverse setdefault update clear".split()
UNUSED_WORDS = (
    "type typing typing_extensions enum Enum IntEnum StrEnum Flag IntFlag Generic Protocol ABC ABCMeta namedtuple "
    "NamedTuple TypedDict TYPE_CHECKING abstractmethod"
).split()
UNUSED_NAMES = (
    "register mro elements open input version_info with_traceback add_note attrgetter breakpoint builtins compile "
    "copyright credits delattr dir eval exec exit gc getattr globals hasattr help id importlib license locals "
    "methodcaller os quit setattr super type vars sys"
).split()


def texts():
    for name in sorted(os.listdir(PACKAGE)):
        if name != "__pycache__":
            with open(os.path.join(PACKAGE, name), encoding="utf-8") as file:
                yield name, file.read()


def nodes():
    for name, text in texts():
        for node in ast.walk(ast.parse(text)):
            yield name, node


class Form(unittest.TestCase):

    def test_files(self):
        self.assertEqual([name for name, text in texts()], ["__init__.py", "meeting.py"])

    def test_signs_and_size(self):
        for name, text in texts():
            self.assertTrue(all(sign == "\n" or " " <= sign <= "~" for sign in text), "L14 " + name)
            rows = text.split("\n")
            self.assertLessEqual(len(rows), 400, "L10 " + name)
            self.assertLessEqual(max(len(row) for row in rows), 120, "L10 " + name)
            words = re.findall(r"\w+", text)
            self.assertEqual([word for word in words if word in UNUSED_WORDS], [], "L17 " + name)
        for name, node in nodes():
            if isinstance(node, ast.FunctionDef):
                self.assertLessEqual(node.end_lineno - node.lineno + 1, 40, "L10 " + node.name)

    def test_statements_and_expressions(self):
        for name, node in nodes():
            where = (name, getattr(node, "lineno", None), type(node).__name__)
            self.assertIsInstance(node, NODES, where)
            if isinstance(node, ast.Assign):
                self.assertEqual(len(node.targets), 1, where)
            if isinstance(node, (ast.For, ast.While)):
                self.assertEqual(node.orelse, [], where)
            if isinstance(node, ast.BinOp):
                self.assertNotIsInstance(node.op, (ast.Div, ast.MatMult, ast.Pow), where)
            if isinstance(node, ast.Constant):
                self.assertIn(type(node.value), (int, str, bool, type(None)), where)
            if isinstance(node, ast.ListComp):
                self.assertEqual(len(node.generators), 1, where)
                self.assertLessEqual(len(node.generators[0].ifs), 1, where)
            if isinstance(node, ast.arguments):
                self.assertIsNone(node.vararg or node.kwarg or (node.kwonlyargs or None), where)
            if isinstance(node, ast.FunctionDef):
                self.assertEqual(node.decorator_list, [], where)
            if isinstance(node, ast.Compare) and any(isinstance(op, (ast.Is, ast.IsNot)) for op in node.ops):
                self.assertIsInstance(node.comparators[0], ast.Constant, where)

    def test_names(self):
        for name, node in nodes():
            named = []
            if isinstance(node, ast.Name):
                named.append((node.id, isinstance(node.ctx, ast.Store)))
            if isinstance(node, ast.arg):
                named.append((node.arg, True))
            if isinstance(node, ast.FunctionDef):
                named.append((node.name, True))
            for word, bound in named:
                self.assertTrue(word.isascii() and not word.startswith("_"), "L12 " + word)
                self.assertNotIn(word, UNUSED_NAMES, "L17")
                if hasattr(builtins, word):
                    self.assertFalse(bound, "L15 " + word)
                    self.assertIn(word, OWN_NAMES, "L8")
            if isinstance(node, ast.Attribute):
                self.assertIn(node.attr, METHODS, "L25")

    def test_top_of_a_file(self):
        for name, text in texts():
            bound = []
            for row in ast.parse(text).body:
                if isinstance(row, ast.FunctionDef):
                    bound.append(row.name)
                elif isinstance(row, ast.Assign):
                    bound.append(row.targets[0].id)
                    self.assertIs(type(ast.literal_eval(row.value)), int, "L3")
                else:
                    self.assertIsInstance(row, ast.Expr, "L3")
                    self.assertIsInstance(row.value.value, str, "L3")
            self.assertEqual(len(bound), len(set(bound)), "L15")

    def test_what_a_loop_walks_is_not_changed_in_it(self):
        for name, node in nodes():
            if not isinstance(node, ast.For):
                continue
            walked = ast.dump(node.iter)
            for inner in ast.walk(node):
                if isinstance(inner, ast.Attribute) and inner.attr in CHANGES:
                    self.assertNotEqual(ast.dump(inner.value), walked, "L23 " + str(inner.lineno))


if __name__ == "__main__":
    unittest.main()
