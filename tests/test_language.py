"""The rules of ../shared/LANGUAGE.md that a short look at the files can check. It does not replace reading them."""

import ast
import builtins
import os
import re
import unittest

import seenbars

FOLDER = os.path.dirname(seenbars.__file__)
BUILTINS = """len range enumerate zip min max sum abs sorted reversed int str bool bytes list tuple dict set isinstance ord
repr any all divmod Exception ValueError TypeError KeyError IndexError LookupError ZeroDivisionError property
staticmethod classmethod super""".split()
# An interactive Python and doctest add `_` to the builtins.
ALL_BUILTINS = [name for name in dir(builtins) if name != "_"]
METHODS = """append clear copy count endswith extend find get index insert isalnum isalpha isdigit islower isspace isupper
items join keys ljust lower lstrip partition pop remove replace reverse rfind rjust rpartition rsplit rstrip setdefault
split splitlines startswith strip update upper values zfill bit_length isdecimal __init__""".split()
SPECIAL = """__init__ __eq__ __repr__ __str__ __len__ __call__ __contains__ __and__ __or__""".split()
STATEMENTS = (ast.Assign, ast.AugAssign, ast.If, ast.While, ast.For, ast.Return, ast.Break, ast.Continue, ast.Pass,
              ast.Raise, ast.Assert, ast.Delete, ast.Try, ast.Expr, ast.FunctionDef, ast.ClassDef, ast.ImportFrom)
WORDS = """type typing typing_extensions enum Enum IntEnum StrEnum Flag IntFlag Generic Protocol ABC ABCMeta namedtuple
NamedTuple TypedDict TYPE_CHECKING abstractmethod dataclass overload contextmanager register mro elements open input law
eval exec globals locals vars dir id""".split()
SET_PLACES = (ast.Call, ast.Compare, ast.BinOp, ast.Assign)


def sources():
    for name in sorted(os.listdir(FOLDER)):
        if name.endswith(".py"):
            with open(os.path.join(FOLDER, name), encoding="utf-8") as file:
                yield name, file.read()


def parents(tree):
    return {child: node for node in ast.walk(tree) for child in ast.iter_child_nodes(node)}


class Language(unittest.TestCase):
    def test_characters_and_sizes(self):
        for name, text in sources():
            self.assertTrue(re.fullmatch("[a-z_]+[.]py", name), name)
            self.assertTrue(all(char == "\n" or " " <= char <= "~" for char in text), name)
            lines = text.split("\n")
            self.assertLess(len(lines), 400, name)
            self.assertTrue(all(len(line) <= 120 and line == line.rstrip() for line in lines), name)
            for node in ast.walk(ast.parse(text)):
                if isinstance(node, ast.FunctionDef):
                    self.assertLessEqual(node.end_lineno - node.lineno + 1, 40, (name, node.name))

    def test_imports(self):
        defined = {name[:-3]: {node.name for node in ast.parse(text).body if hasattr(node, "name")}
                   | {target.id for node in ast.parse(text).body if isinstance(node, ast.Assign)
                      for target in node.targets} for name, text in sources()}
        for name, text in sources():
            tree = ast.parse(text)
            for node in ast.walk(tree):
                self.assertNotIsInstance(node, ast.Import, name)
                if isinstance(node, ast.ImportFrom):
                    self.assertIn(node, tree.body, name)
                    self.assertTrue(node.module.startswith("seenbars."), name)
                    for alias in node.names:
                        self.assertIn(alias.name, defined[node.module[len("seenbars."):]], name)

    def test_statements_and_values(self):
        for name, text in sources():
            for node in ast.walk(ast.parse(text)):
                if isinstance(node, ast.stmt):
                    self.assertIsInstance(node, STATEMENTS, (name, node.lineno))
                if isinstance(node, ast.Constant):
                    self.assertNotIsInstance(node.value, (float, complex), (name, node.lineno))
                    self.assertNotIn("%", str(node.value), (name, node.lineno))
                self.assertNotIsInstance(node, ast.Div, name)

    def test_builtins_and_methods(self):
        for name, text in sources():
            tree = ast.parse(text)
            own = {node.name for _, other in sources() for node in ast.walk(ast.parse(other))
                   if isinstance(node, (ast.FunctionDef, ast.ClassDef))}
            bound = set()
            for node in ast.walk(tree):
                if isinstance(node, ast.Name) and isinstance(node.ctx, ast.Load) and node.id in ALL_BUILTINS:
                    self.assertIn(node.id, BUILTINS, (name, node.lineno))
                if isinstance(node, ast.Name) and isinstance(node.ctx, ast.Store):
                    bound.add(node.id)
                if isinstance(node, ast.arg):
                    bound.add(node.arg)
                if isinstance(node, ast.Call) and isinstance(node.func, ast.Attribute):
                    self.assertIn(node.func.attr, METHODS + sorted(own), (name, node.lineno))
                if isinstance(node, ast.FunctionDef):
                    if node.name.startswith("__"):
                        self.assertIn(node.name, SPECIAL, name)
                    else:
                        self.assertFalse(node.name in ALL_BUILTINS, (name, node.name))
            imported = {alias.name for node in tree.body if isinstance(node, ast.ImportFrom) for alias in node.names}
            classes = {node.name for node in tree.body if isinstance(node, ast.ClassDef)}
            self.assertFalse([word for word in bound if word in ALL_BUILTINS or word in imported | classes], name)

    def test_words(self):
        for name, text in sources():
            for node in ast.walk(ast.parse(text)):
                for field in ("id", "arg", "attr", "name"):
                    self.assertNotIn(getattr(node, field, None), WORDS, name)

    def test_sets_stand_where_they_may(self):
        for name, text in sources():
            tree = ast.parse(text)
            above = parents(tree)
            for node in ast.walk(tree):
                is_set = isinstance(node, (ast.Set, ast.SetComp)) or (
                    isinstance(node, ast.Call) and isinstance(node.func, ast.Name) and node.func.id == "set")
                if is_set:
                    self.assertIsInstance(above[node], SET_PLACES, (name, node.lineno))
                    if isinstance(above[node], ast.Call):
                        self.assertIn(above[node].func.id, ("sorted", "len"), (name, node.lineno))

    def test_generator_expressions_and_lambdas_are_not_needed(self):
        for name, text in sources():
            for node in ast.walk(ast.parse(text)):
                self.assertNotIsInstance(node, (ast.GeneratorExp, ast.Lambda, ast.Yield, ast.NamedExpr), name)


if __name__ == "__main__":
    unittest.main()
