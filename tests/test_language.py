"""The form of the package's files: what of the language's rules can be seen without running them."""

import ast
import os
import re
import unittest

FOLDER = os.path.join(os.path.dirname(os.path.dirname(os.path.abspath(__file__))), "uncutline")

NODES = (
    ast.Module, ast.FunctionDef, ast.ClassDef, ast.arguments, ast.arg, ast.Return, ast.Assign, ast.If, ast.While,
    ast.For, ast.Break, ast.Continue, ast.Pass, ast.Expr, ast.Name, ast.Constant, ast.List, ast.Tuple, ast.Dict,
    ast.BinOp, ast.UnaryOp, ast.BoolOp, ast.Compare, ast.IfExp, ast.Call, ast.Attribute, ast.Subscript, ast.Slice,
    ast.Load, ast.Store, ast.Add, ast.Sub, ast.Mult, ast.FloorDiv, ast.Mod, ast.BitAnd, ast.BitOr, ast.BitXor,
    ast.LShift, ast.RShift, ast.Invert, ast.USub, ast.Not, ast.And, ast.Or, ast.Eq, ast.NotEq, ast.Lt, ast.LtE,
    ast.Gt, ast.GtE, ast.In, ast.NotIn, ast.Is, ast.IsNot,
)
BUILT_IN = ("len", "range", "enumerate", "zip", "min", "max", "sum", "abs", "sorted", "reversed", "int", "str", "bool",
            "list", "tuple", "dict", "isinstance", "any", "all", "divmod")
METHODS = ("append", "copy", "count", "extend", "get", "index", "insert", "pop", "reverse", "bit_length")
WORDS = ("type", "typing", "typing_extensions", "enum", "Enum", "IntEnum", "StrEnum", "Flag", "IntFlag", "Generic",
         "Protocol", "ABC", "ABCMeta", "namedtuple", "NamedTuple", "TypedDict", "TYPE_CHECKING", "abstractmethod")


def files():
    return sorted(name for name in os.listdir(FOLDER) if name != "__pycache__")


def text_of(name):
    with open(os.path.join(FOLDER, name), encoding="utf-8", newline="") as file:
        return file.read()


def nodes_of(name):
    return list(ast.walk(ast.parse(text_of(name))))


class LanguageTest(unittest.TestCase):
    def test_the_files(self):
        self.assertEqual(files(), ["__init__.py", "desk.py"])

    def test_signs_and_sizes(self):
        for name in files():
            text = text_of(name)
            self.assertEqual([sign for sign in text if not (" " <= sign <= "~" or sign == "\n")], [])
            lines = text.split("\n")
            self.assertLessEqual(len(lines), 400)
            self.assertLessEqual(max(len(line) for line in lines), 120)
            for node in nodes_of(name):
                if isinstance(node, ast.FunctionDef):
                    self.assertLessEqual(node.end_lineno - node.lineno + 1, 40, node.name)

    def test_words_that_stand_nowhere(self):
        for name in files():
            found = re.findall(r"\w+", text_of(name))
            self.assertEqual([word for word in found if word in WORDS], [])

    def test_only_forms_of_the_language_and_no_import(self):
        for name in files():
            for node in nodes_of(name):
                self.assertIsInstance(node, NODES)
                if isinstance(node, ast.Constant):
                    self.assertIn(type(node.value), (int, str, bool, type(None)))
                if isinstance(node, (ast.FunctionDef, ast.ClassDef)):
                    self.assertEqual(node.decorator_list, [])
                if isinstance(node, ast.Assign):
                    self.assertEqual(len(node.targets), 1)
                if isinstance(node, (ast.For, ast.While)):
                    self.assertEqual(node.orelse, [])

    def test_names(self):
        for name in files():
            nodes = nodes_of(name)
            bound = [node.id for node in nodes if isinstance(node, ast.Name) and isinstance(node.ctx, ast.Store)]
            bound += [node.arg for node in nodes if isinstance(node, ast.arg)]
            bound += [node.name for node in nodes if isinstance(node, (ast.FunctionDef, ast.ClassDef))]
            python_own = dir(__builtins__) if not isinstance(__builtins__, dict) else list(__builtins__)
            for word in bound:
                self.assertNotIn(word, python_own)
                self.assertTrue(word[0] != "_" or word == "__init__", word)
            read = [node.id for node in nodes if isinstance(node, ast.Name) and isinstance(node.ctx, ast.Load)]
            self.assertEqual([word for word in read if word not in bound and word not in BUILT_IN], [])

    def test_methods(self):
        for name in files():
            nodes = nodes_of(name)
            own = [node.name for node in nodes if isinstance(node, ast.FunctionDef)]
            called = [node.func.attr for node in nodes
                      if isinstance(node, ast.Call) and isinstance(node.func, ast.Attribute)]
            self.assertEqual([word for word in called if word not in own and word not in METHODS], [])

    def test_each_name_of_a_files_top_is_bound_once(self):
        for name in files():
            bound = []
            for node in ast.parse(text_of(name)).body:
                if isinstance(node, ast.Assign):
                    bound.append(node.targets[0].id)
                    self.assertIsInstance(ast.literal_eval(node.value), (int, str, tuple))
                elif isinstance(node, (ast.FunctionDef, ast.ClassDef)):
                    bound.append(node.name)
                else:
                    self.assertIsInstance(node, ast.Expr)
                    self.assertIsInstance(node.value, ast.Constant)
            self.assertEqual(len(bound), len(set(bound)))

    def test_no_function_calls_itself(self):
        for name in files():
            for node in nodes_of(name):
                if isinstance(node, ast.FunctionDef):
                    called = [inner.func.id for inner in ast.walk(node)
                              if isinstance(inner, ast.Call) and isinstance(inner.func, ast.Name)]
                    self.assertNotIn(node.name, called)


if __name__ == "__main__":
    unittest.main()
