"""That the package keeps to the part of Python it is to be written in, as far as a walk over it can tell."""

import ast
import builtins
import os
import re
import unittest

PACKAGE = os.path.join(os.path.dirname(os.path.dirname(os.path.abspath(__file__))), "enclosedrays")

STATEMENTS = (ast.FunctionDef, ast.ClassDef, ast.Assign, ast.AugAssign, ast.If, ast.While, ast.For, ast.Return,
              ast.Break, ast.Continue, ast.Pass, ast.Raise, ast.Try, ast.Expr, ast.ImportFrom)
EXPRESSIONS = (ast.Constant, ast.List, ast.Tuple, ast.Dict, ast.BinOp, ast.UnaryOp, ast.Compare, ast.BoolOp, ast.IfExp,
               ast.Call, ast.Attribute, ast.Subscript, ast.Slice, ast.ListComp, ast.JoinedStr, ast.FormattedValue,
               ast.Name)
OWN = ("len range enumerate zip min max sum abs sorted reversed int str bool list tuple dict isinstance ord repr any all "
       "divmod Exception ValueError KeyError ZeroDivisionError").split(" ")
METHODS = ("append count endswith extend find get index insert join pop startswith bit_length items keys values "
           "__init__").split(" ")
NO_WORDS = ("type typing typing_extensions enum Enum IntEnum StrEnum Flag IntFlag Generic Protocol ABC ABCMeta namedtuple "
            "NamedTuple TypedDict TYPE_CHECKING abstractmethod").split(" ")
NO_NAMES = ("register mro elements open input version_info with_traceback add_note id dir vars type super eval exec compile "
            "help exit quit os sys gc format format_map").split(" ")
PYTHONS = [name for kind in (str, int, list, dict, set, bytes, tuple) for name in vars(kind)]
MAY_BE_VALUES = "count index title find get join lower upper split strip copy add".split(" ")


def files():
    return sorted(name for name in os.listdir(PACKAGE) if name != "__pycache__")


def source_of(name):
    with open(os.path.join(PACKAGE, name), encoding="utf-8", newline="") as opened:
        return opened.read()


def trees():
    return [(name, ast.parse(source_of(name))) for name in files()]


def nodes(kinds):
    return [(name, node) for name, tree in trees() for node in ast.walk(tree) if isinstance(node, kinds)]


class Language(unittest.TestCase):
    def where(self, name, node):
        return f"{name}:{getattr(node, 'lineno', '?')}"

    def test_files(self):
        self.assertIn("__init__.py", files())
        for name in files():
            self.assertRegex(name, r"^(__init__|[a-z][a-z0-9_]*)\.py$")
            self.assertFalse(name[:-3] in dir(builtins) or name.startswith("test"))
            self.assertTrue(all(sign == "\n" or " " <= sign <= "~" for sign in source_of(name)), name)

    def test_sizes(self):
        for name in files():
            lines = source_of(name).split("\n")
            self.assertLessEqual(len(lines), 400, name)
            self.assertLessEqual(max(len(line) for line in lines), 120, name)
        for name, node in nodes(ast.FunctionDef):
            self.assertLessEqual(node.end_lineno - node.lineno + 1, 40, self.where(name, node))

    def test_words(self):
        for name in files():
            words = re.findall(r"\w+", source_of(name))
            self.assertEqual([word for word in words if word in NO_WORDS], [], name)

    def test_statements_and_expressions(self):
        for name, node in nodes(ast.stmt):
            self.assertIsInstance(node, STATEMENTS, self.where(name, node))
            self.assertFalse(isinstance(node, (ast.For, ast.While)) and node.orelse, self.where(name, node))
            self.assertFalse(isinstance(node, ast.Try) and node.finalbody, self.where(name, node))
            self.assertFalse(isinstance(node, ast.Assign) and len(node.targets) > 1, self.where(name, node))
            self.assertFalse(isinstance(node, ast.Expr) and not isinstance(node.value, (ast.Call, ast.Constant)))
        for name, node in nodes(ast.expr):
            self.assertIsInstance(node, EXPRESSIONS, self.where(name, node))

    def test_operators(self):
        for name, node in nodes(ast.BinOp):
            self.assertNotIsInstance(node.op, (ast.Div, ast.MatMult, ast.Pow), self.where(name, node))
        for name, node in nodes(ast.Compare):
            if any(isinstance(sign, (ast.Is, ast.IsNot)) for sign in node.ops):
                self.assertIn(ast.unparse(node.comparators[0]), ("None", "True", "False"), self.where(name, node))
        for name, node in nodes(ast.Constant):
            self.assertTrue(node.value is None or isinstance(node.value, (int, str)), self.where(name, node))
            self.assertFalse(isinstance(node.value, str) and "%" in node.value, self.where(name, node))
        for name, node in nodes(ast.ListComp):
            self.assertTrue(len(node.generators) == 1 and len(node.generators[0].ifs) < 2, self.where(name, node))

    def test_imports(self):
        drawn = {}
        for name, tree in trees():
            rows = [node for node in ast.walk(tree) if isinstance(node, ast.ImportFrom)]
            self.assertTrue(all(row in tree.body and row.level == 0 for row in rows), name)
            drawn[name] = [row.module for row in rows]
            for row in rows:
                self.assertRegex(row.module, r"^enclosedrays\.[a-z]+$")
                home = ast.parse(source_of(row.module.split(".")[1] + ".py"))
                bound = [node.name for node in home.body if isinstance(node, (ast.FunctionDef, ast.ClassDef))]
                bound += [node.targets[0].id for node in home.body if isinstance(node, ast.Assign)]
                used = [node.id for node in ast.walk(tree) if isinstance(node, ast.Name)]
                for alias in row.names:
                    self.assertTrue(alias.name in bound and alias.asname is None and alias.name in used, alias.name)
        self.assertEqual(drawn["__init__.py"], [])
        while drawn:
            free = [name for name in drawn if not any(f"{row.split('.')[1]}.py" in drawn for row in drawn[name])]
            self.assertTrue(free, "files that draw from one another")
            drawn = {name: rows for name, rows in drawn.items() if name not in free}

    def test_top_of_files(self):
        for name, tree in trees():
            self.assertTrue(ast.get_docstring(tree), name)
            names = []
            for node in tree.body[1:]:
                self.assertIsInstance(node, (ast.ImportFrom, ast.FunctionDef, ast.ClassDef, ast.Assign), name)
                if isinstance(node, ast.Assign):
                    ast.literal_eval(node.value)
                    self.assertNotIsInstance(node.value, (ast.List, ast.Dict), name)
                if isinstance(node, (ast.FunctionDef, ast.ClassDef)):
                    names.append(node.name)
                elif isinstance(node, ast.ImportFrom):
                    names += [alias.name for alias in node.names]
                else:
                    names.append(node.targets[0].id)
            self.assertEqual(sorted(set(names)), sorted(names), name)

    def test_functions_and_classes(self):
        for name, node in nodes(ast.FunctionDef):
            where = self.where(name, node)
            plain = node.args
            self.assertFalse(plain.vararg or plain.kwarg or plain.kwonlyargs or plain.posonlyargs, where)
            self.assertFalse(node.decorator_list or node.returns or any(each.annotation for each in plain.args), where)
            self.assertTrue(node.name == "__init__" or not node.name.startswith("_"), where)
        for name, node in nodes(ast.ClassDef):
            self.assertFalse(node.decorator_list or node.keywords or len(node.bases) > 1, self.where(name, node))
            for inner in node.body:
                self.assertTrue(isinstance(inner, ast.FunctionDef) or isinstance(inner, ast.Expr), self.where(name, inner))

    def test_names(self):
        for name, tree in trees():
            top = [node.name for node in tree.body if isinstance(node, (ast.FunctionDef, ast.ClassDef))]
            top += [alias.name for node in tree.body if isinstance(node, ast.ImportFrom) for alias in node.names]
            stored = [node.id for node in ast.walk(tree)
                      if isinstance(node, ast.Name) and isinstance(node.ctx, ast.Store)]
            stored += [node.arg for node in ast.walk(tree) if isinstance(node, ast.arg)]
            stored += [node.name for node in ast.walk(tree) if isinstance(node, ast.ExceptHandler) and node.name]
            for each in stored:
                self.assertFalse(each in dir(builtins) or each in top or each.startswith("_"), f"{name}: {each}")
            for node in ast.walk(tree):
                if isinstance(node, ast.Name) and node.id in dir(builtins):
                    self.assertIn(node.id, OWN, self.where(name, node))
                if isinstance(node, (ast.Name, ast.Attribute)):
                    self.assertNotIn(node.id if isinstance(node, ast.Name) else node.attr, NO_NAMES, self.where(name, node))

    def test_methods_and_values(self):
        methods = [inner.name for name, node in nodes(ast.ClassDef) for inner in node.body
                   if isinstance(inner, ast.FunctionDef)]
        values = [node.attr for name, node in nodes(ast.Attribute) if isinstance(node.ctx, ast.Store)]
        self.assertEqual([value for value in values if value in methods], [])
        self.assertEqual([value for value in values if value in PYTHONS and value not in MAY_BE_VALUES], [])
        for name, node in nodes(ast.Call):
            if isinstance(node.func, ast.Attribute):
                self.assertIn(node.func.attr, methods + METHODS, self.where(name, node))
            self.assertEqual(node.keywords, [], self.where(name, node))

    def test_errors(self):
        for name, node in nodes(ast.Raise):
            self.assertTrue(isinstance(node.exc, ast.Call) and isinstance(node.exc.func, ast.Name), self.where(name, node))
            self.assertTrue(node.exc.func.id[0].isupper(), self.where(name, node))
        for name, node in nodes(ast.ExceptHandler):
            self.assertIn(ast.unparse(node.type), ("NotTaken", "TextFault", "TooGreat", "Lost"), self.where(name, node))
