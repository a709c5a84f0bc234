"""The form of the code: the rules of LANGUAGE.md that a program can see."""

import ast
import builtins
import os
import re
import unittest

FOLDER = os.path.join(os.path.dirname(os.path.dirname(os.path.abspath(__file__))), "saggar")
BUILTINS = """len range enumerate zip min max sum abs sorted reversed int str bool list tuple dict set isinstance ord
    repr any all divmod Exception ValueError TypeError KeyError IndexError LookupError ZeroDivisionError True False None
    NotImplemented""".split()
METHODS = """append clear copy count endswith extend find get index insert isalnum isalpha isdigit islower isspace isupper
    items join keys ljust lower lstrip partition pop remove replace reverse rfind rjust rpartition rsplit rstrip setdefault
    split splitlines startswith strip update upper values zfill bit_length""".split()
BARRED = """register mro elements open input law version_info attrgetter breakpoint builtins compile copyright credits delattr
    dir eval exec exit gc globals help id importlib license locals methodcaller os quit setattr super type vars sys""".split()
WORDS = """type typing typing_extensions enum Enum IntEnum StrEnum Flag IntFlag Generic Protocol ABC ABCMeta namedtuple
    NamedTuple TypedDict TYPE_CHECKING abstractmethod""".split()
DUNDERS = ["__init__", "__eq__"]
STATEMENTS = (ast.Assign, ast.AugAssign, ast.If, ast.While, ast.For, ast.Return, ast.Raise, ast.Try, ast.ExceptHandler,
              ast.Delete, ast.Expr, ast.Break, ast.Continue, ast.Pass, ast.FunctionDef, ast.ClassDef, ast.ImportFrom)


def parsed_files():
    """Returns a dict of the text and the tree of each file by its name."""
    found = {}
    for name in sorted(os.listdir(FOLDER)):
        if name.endswith(".py"):
            with open(os.path.join(FOLDER, name), encoding="utf-8") as file:
                text = file.read()
            found[name] = (text, ast.parse(text))
    return found


FILES = parsed_files()


def nodes_of(kind):
    """Returns the pairs of a file's name and a node for all nodes of a kind."""
    return [(name, node) for name, (_, tree) in FILES.items() for node in ast.walk(tree) if isinstance(node, kind)]


def top_names(tree):
    """Returns the names that a file binds at its module level."""
    found = []
    for node in tree.body:
        if isinstance(node, (ast.FunctionDef, ast.ClassDef)):
            found.append(node.name)
        elif isinstance(node, ast.Assign):
            found.append(node.targets[0].id)
        elif isinstance(node, ast.ImportFrom):
            found += [alias.asname or alias.name for alias in node.names]
    return found


def bound_names(function):
    """Returns the names of the parameters and local variables of a function."""
    found = [arg.arg for arg in function.args.args + function.args.kwonlyargs]
    for node in ast.walk(function):
        if isinstance(node, ast.Name) and isinstance(node.ctx, ast.Store):
            found.append(node.id)
    return found


class Form(unittest.TestCase):
    def test_files(self):
        for name in os.listdir(FOLDER):
            if name != "__pycache__":
                self.assertRegex(name, r"^(__init__|[a-z][a-z0-9_]*)\.py$")

    def test_characters_and_sizes(self):
        for name, (text, _) in FILES.items():
            self.assertRegex(text, r"\A[\n -~]*\Z", name)
            self.assertLessEqual(len(text.splitlines()), 399, name)
            self.assertLessEqual(max(len(line) for line in text.splitlines()), 120, name)
        for name, node in nodes_of(ast.FunctionDef):
            self.assertLessEqual(node.end_lineno - node.lineno + 1, 40, (name, node.name))

    def test_statements(self):
        for name, node in nodes_of(ast.stmt):
            self.assertIsInstance(node, STATEMENTS, (name, node.lineno))
        for name, (_, tree) in FILES.items():
            for node in tree.body:
                self.assertIsInstance(node, (ast.Expr, ast.ImportFrom, ast.FunctionDef, ast.ClassDef, ast.Assign), name)
                if isinstance(node, ast.Expr):
                    self.assertIsInstance(node.value, ast.Constant, name)

    def test_expressions(self):
        for kind in (ast.GeneratorExp, ast.Lambda, ast.Yield, ast.Set, ast.Div, ast.Starred, ast.JoinedStr, ast.Pow):
            self.assertEqual([(name, getattr(node, "lineno", 0)) for name, node in nodes_of(kind)], [])
        for name, node in nodes_of(ast.Compare):
            if isinstance(node.ops[0], (ast.Is, ast.IsNot)):
                self.assertIsInstance(node.comparators[0], ast.Constant, (name, node.lineno))

    def test_strings(self):
        for name, node in nodes_of(ast.Constant):
            self.assertNotIsInstance(node.value, (float, complex, bytes))
            if isinstance(node.value, str):
                self.assertNotIn("%", node.value, (name, node.lineno))
                self.assertFalse(node.value.endswith("._") or node.value.startswith("__"), name)

    def test_imports(self):
        uses = {}
        for name, node in nodes_of(ast.ImportFrom):
            self.assertEqual(node.level, 0)
            if node.module == "heapq":
                continue
            package, file = node.module.split(".")
            self.assertEqual(package, "saggar")
            uses.setdefault(name, []).append(file + ".py")
            defined = top_names(ast.Module([n for n in FILES[file + ".py"][1].body if not isinstance(n, ast.ImportFrom)], []))
            for alias in node.names:
                self.assertIn(alias.name, defined, (name, alias.name))
                self.assertIsNone(alias.asname)
        reached = {name: set(files) for name, files in uses.items()}
        for _ in FILES:
            for name, files in reached.items():
                for file in list(files):
                    files |= reached.get(file, set())
        for name, files in reached.items():
            self.assertNotIn(name, files)

    def test_imports_are_used(self):
        for name, (text, tree) in FILES.items():
            for node in tree.body:
                if isinstance(node, ast.ImportFrom):
                    for alias in node.names:
                        self.assertGreater(len(re.findall(r"\b" + alias.name + r"\b", text)), 1, (name, alias.name))

    def test_names(self):
        for name, (_, tree) in FILES.items():
            names = top_names(tree)
            self.assertEqual(len(names), len(set(names)), name)
            taken = [node.name for node in tree.body if isinstance(node, ast.ClassDef)]
            for node in tree.body:
                taken += [alias.name for alias in getattr(node, "names", [])]
            for function in [node for node in ast.walk(tree) if isinstance(node, ast.FunctionDef)]:
                names = names + [function.name] + bound_names(function)
                self.assertEqual([word for word in bound_names(function) if word in taken], [], (name, function.name))
            for word in names:
                self.assertNotIn(word, BARRED, name)
                self.assertNotIn(word, vars(builtins), (name, word))
                self.assertTrue(word in DUNDERS or re.match(r"^(_|_?[A-Za-z][A-Za-z0-9_]*)$", word), (name, word))

    def test_barred_words(self):
        for name, (_, tree) in FILES.items():
            plain = ast.unparse(tree)
            for word in WORDS:
                self.assertIsNone(re.search(r"\b" + word + r"\b", plain), (name, word))

    def test_builtins_and_methods(self):
        own = [node.name for _, node in nodes_of(ast.FunctionDef)]
        for name, (_, tree) in FILES.items():
            known = top_names(tree)
            for node in ast.walk(tree):
                if isinstance(node, ast.Name) and hasattr(builtins, node.id) and node.id not in known:
                    self.assertIn(node.id, BUILTINS, (name, node.lineno))
                if isinstance(node, ast.Call) and isinstance(node.func, ast.Attribute):
                    self.assertIn(node.func.attr, METHODS + own, (name, node.lineno))

    def test_methods_and_attributes(self):
        for name, node in nodes_of(ast.ClassDef):
            methods = [part.name for part in node.body if isinstance(part, ast.FunctionDef)]
            stored = {part.attr for part in ast.walk(node) if isinstance(part, ast.Attribute) and isinstance(part.ctx, ast.Store)}
            self.assertEqual([word for word in methods if word in stored], [], (name, node.name))
            self.assertEqual(len(methods), len(set(methods)), (name, node.name))
            for word in methods:
                self.assertTrue(not word.startswith("__") or word in DUNDERS, (name, word))


if __name__ == "__main__":
    unittest.main()
