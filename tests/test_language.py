"""The files of the package keep to the plain subset of Python in which the program is written."""

import ast
import builtins
import pathlib
import re
import unittest

PACKAGE = pathlib.Path(__file__).resolve().parent.parent / "boundorvoid"
FILES = sorted(PACKAGE.glob("*.py"))
TREES = {path.stem: ast.parse(path.read_text()) for path in FILES}

BUILTINS = set("""len range enumerate zip min max sum abs sorted reversed int str bool list tuple dict set isinstance
ord repr any all divmod Exception ValueError TypeError KeyError IndexError LookupError""".split())
METHODS = set("""append clear copy count endswith extend find get index insert isalnum isalpha isdigit islower isspace
isupper items join keys ljust lower lstrip partition pop remove replace reverse rfind rjust rpartition rsplit rstrip
setdefault split splitlines startswith strip update upper values zfill bit_length add discard""".split())
SPECIAL = set("__init__ __eq__ __len__ __repr__ __str__".split())
BARRED_ATTRIBUTES = set("""items keys values pop update append clear extend insert remove reverse setdefault sort args
encode decode hex fromhex format format_map mro register elements open input law""".split())
BARRED_WORDS = re.compile(r"\b(type|typing|enum|Enum|Generic|Protocol|ABC|namedtuple|dataclass|overload|register|mro|"
                          r"elements|open|input|law|eval|exec|globals|locals|vars|getattr|chr|bytes)\b")
BARRED_NODES = (ast.Global, ast.AsyncFunctionDef, ast.Await, ast.SetComp, ast.Div, ast.Yield, ast.YieldFrom,
                ast.GeneratorExp, ast.NamedExpr, ast.ExceptHandler, ast.With, ast.AsyncFor, ast.Nonlocal)
FOLDED = {"any", "all", "min", "max", "sum", "sorted", "tuple", "list"}
LAZY = {"zip", "enumerate", "reversed", "range"}


def nodes(kind):
    return [(stem, node) for stem, tree in TREES.items() for node in ast.walk(tree) if isinstance(node, kind)]


def bound_names(function):
    """Parameters and local variables of a function, those of comprehensions and lambdas too."""
    names = {arg.arg for node in ast.walk(function) for arg in getattr(node, "posonlyargs", [])}
    for node in ast.walk(function):
        if isinstance(node, ast.arg):
            names.add(node.arg)
        if isinstance(node, ast.Name) and isinstance(node.ctx, ast.Store):
            names.add(node.id)
    return names


# doctest leaves a name of its own there.
RESERVED = set(dir(builtins)) - {"_"}


class LanguageTest(unittest.TestCase):
    def test_folder(self):
        self.assertTrue((PACKAGE / "__init__.py").exists())
        for path in PACKAGE.iterdir():
            self.assertTrue(path.suffix == ".py" or path.name == "__pycache__", path)
            self.assertRegex(path.stem, r"\A[a-z_]+\Z")
        self.assertLessEqual(len(FILES), 100)

    def test_characters_and_sizes(self):
        for path in FILES:
            text = path.read_bytes().decode("ascii")
            self.assertRegex(text, r"\A[ -~\n]*\Z")
            lines = text.split("\n")
            self.assertLessEqual(len(lines), 400, path)
            self.assertLessEqual(max(map(len, lines)), 120, path)
        for stem, function in nodes(ast.FunctionDef):
            self.assertLessEqual(function.end_lineno - function.lineno + 1, 40, (stem, function.name))
            self.assertEqual(function.decorator_list, [])

    def test_imports(self):
        defined = {stem: {node.name for node in tree.body if isinstance(node, (ast.FunctionDef, ast.ClassDef))} |
                   {node.targets[0].id for node in tree.body if isinstance(node, ast.Assign)}
                   for stem, tree in TREES.items()}
        ahead = {stem: set() for stem in TREES}
        self.assertEqual(nodes(ast.Import), [])
        for stem, node in nodes(ast.ImportFrom):
            self.assertIn(node, TREES[stem].body)
            self.assertEqual(node.level, 0)
            folder, _, other = node.module.partition(".")
            if folder == "itertools":
                self.assertEqual([(name.name, name.asname) for name in node.names], [("combinations", None)])
                continue
            self.assertEqual(folder, "boundorvoid")
            for name in node.names:
                self.assertIsNone(name.asname)
                self.assertIn(name.name, defined[other], (stem, name.name))
                used = [item for item in ast.walk(TREES[stem]) if isinstance(item, ast.Name) and item.id == name.name]
                self.assertTrue(used, (stem, name.name))
            ahead[stem].add(other)
        while ahead:
            free = [stem for stem, others in ahead.items() if not others & set(ahead)]
            self.assertTrue(free, "files import from each other")
            for stem in free:
                del ahead[stem]

    def check_plain(self, value, names):
        """A literal, or a dict that leads literal words to functions defined above."""
        if isinstance(value, ast.Dict) and any(isinstance(item, ast.Name) for item in value.values):
            for key, item in zip(value.keys, value.values):
                self.assertIsInstance(ast.literal_eval(key), str)
                self.assertIn(item.id, names)
        else:
            ast.literal_eval(value)

    def test_finally(self):
        for stem, node in nodes(ast.Try):
            self.assertTrue(node.finalbody and not node.handlers and not node.orelse, (stem, node.lineno))
            for row in node.finalbody:
                self.assertIsInstance(row, ast.Assign)
                self.assertIsInstance(row.targets[0], ast.Attribute)
                self.assertIsInstance(row.value, ast.Name)

    def test_names_in_comprehensions(self):
        kinds = (ast.ListComp, ast.DictComp)

        def assigned(tree):
            return {node.id for node in ast.walk(tree) if isinstance(node, ast.Name) and isinstance(node.ctx, ast.Store)}

        for stem, tree in TREES.items():
            for outer in ast.walk(tree):
                if not isinstance(outer, kinds):
                    continue
                own = {name for part in outer.generators for name in assigned(part.target)}
                for inner in ast.walk(outer):
                    if isinstance(inner, kinds) and inner is not outer:
                        names = {name for part in inner.generators for name in assigned(part.target)}
                        self.assertFalse(own & names, (stem, inner.lineno))

    def test_module_level(self):
        for stem, tree in TREES.items():
            names = []
            for node in tree.body:
                plain = isinstance(node, ast.Expr) and isinstance(node.value, ast.Constant)
                kinds = (ast.ImportFrom, ast.FunctionDef, ast.ClassDef, ast.Assign)
                self.assertTrue(plain or isinstance(node, kinds), (stem, node.lineno))
                if isinstance(node, ast.ImportFrom):
                    names.extend(name.name for name in node.names)
                elif isinstance(node, (ast.FunctionDef, ast.ClassDef)):
                    names.append(node.name)
                elif isinstance(node, ast.Assign):
                    names.append(node.targets[0].id)
                    self.check_plain(node.value, names)
            self.assertEqual(len(names), len(set(names)), stem)
            self.assertFalse(set(names) & RESERVED, stem)
            self.assertIsNotNone(ast.get_docstring(tree), stem)

    def test_statements_and_expressions(self):
        self.assertEqual([(stem, node.lineno) for stem, node in nodes(BARRED_NODES)], [])
        for stem, node in nodes(ast.Constant):
            self.assertNotIsInstance(node.value, (float, bytes, complex))
            if isinstance(node.value, str):
                self.assertNotIn("%", node.value)
        for stem, node in nodes(ast.Compare):
            for operator, right in zip(node.ops, node.comparators):
                if isinstance(operator, (ast.Is, ast.IsNot)):
                    self.assertIsInstance(right, ast.Constant)
        for stem, node in nodes(ast.Raise):
            self.assertIsInstance(node.exc, ast.Call, (stem, node.lineno))
            self.assertIsNone(node.cause)
        for stem, node in nodes(ast.Pow):
            self.fail(stem)

    def test_names(self):
        own = {node.name for _, node in nodes((ast.FunctionDef, ast.ClassDef))}
        for stem, tree in TREES.items():
            taken = {name.name for node in tree.body if isinstance(node, ast.ImportFrom) for name in node.names}
            taken |= {node.name for node in tree.body if isinstance(node, (ast.FunctionDef, ast.ClassDef))}
            for node in ast.walk(tree):
                if isinstance(node, ast.FunctionDef):
                    bound = bound_names(node)
                    self.assertFalse(bound & taken, (stem, node.name, bound & taken))
                    self.assertFalse(bound & RESERVED, (stem, node.name))
                if isinstance(node, ast.Name) and isinstance(node.ctx, ast.Load) and node.id in RESERVED:
                    self.assertIn(node.id, BUILTINS, (stem, node.lineno))
                if isinstance(node, ast.Name) and node.id == "_":
                    self.assertIsInstance(node.ctx, ast.Store, (stem, node.lineno))
        for name in own:
            self.assertTrue(not name.startswith("__") or name in SPECIAL, name)

    def test_words(self):
        for path in FILES:
            tree = TREES[path.stem]
            words = [node.id for node in ast.walk(tree) if isinstance(node, ast.Name)]
            words += [node.attr for node in ast.walk(tree) if isinstance(node, ast.Attribute)]
            words += [node.arg for node in ast.walk(tree) if isinstance(node, ast.arg)]
            for word in words:
                self.assertIsNone(BARRED_WORDS.fullmatch(word), (path.name, word))

    def test_calls(self):
        functions = {node.name for _, node in nodes(ast.FunctionDef)}
        for stem, node in nodes(ast.Call):
            place = (stem, node.lineno)
            if isinstance(node.func, ast.Attribute):
                self.assertIn(node.func.attr, METHODS | functions, place)
                self.assertEqual(node.keywords, [], place)
            elif node.func.id in BUILTINS and node.keywords:
                allowed = {"sorted": {"key", "reverse"}, "min": {"key", "default"}, "max": {"key", "default"}}
                self.assertLessEqual({word.arg for word in node.keywords}, allowed[node.func.id], place)

    def test_attributes(self):
        for stem, node in nodes(ast.Attribute):
            if isinstance(node.ctx, ast.Store):
                self.assertNotIn(node.attr, BARRED_ATTRIBUTES | METHODS, (stem, node.lineno))
                self.assertIsInstance(node.value, ast.Name)

    def test_sets_and_lazy_things(self):
        at_once = {}
        for stem, tree in TREES.items():
            for node in ast.walk(tree):
                if isinstance(node, (ast.For, ast.comprehension)):
                    at_once[node.iter] = True
                if isinstance(node, ast.Call) and isinstance(node.func, ast.Name):
                    if node.func.id in FOLDED | {"len", "enumerate", "zip", "dict"} and node.args:
                        at_once[node.args[0]] = node.func.id
                    if node.func.id == "reversed" and isinstance(node.args[0], ast.Call):
                        self.assertEqual(node.args[0].func.id, "range", (stem, node.lineno))
                        at_once[node.args[0]] = "reversed"
            for node in ast.walk(tree):
                if not isinstance(node, ast.Call) or not isinstance(node.func, ast.Name):
                    continue
                if node.func.id == "set":
                    self.assertIn(at_once.get(node), ("sorted", "len"), (stem, node.lineno))
                if node.func.id in LAZY:
                    self.assertIn(node, at_once, (stem, node.lineno))
        self.assertEqual(nodes(ast.Set), [])


if __name__ == "__main__":
    unittest.main()
