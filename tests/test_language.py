"""The package keeps to the small language in which it is written: what can be read off its files."""

import ast
import pathlib
import re
import unittest

PACKAGE = pathlib.Path(__file__).resolve().parent.parent / "roundwright"
FILES = sorted(PACKAGE.glob("*.py"))
BUILTINS = set(
    "len range enumerate zip min max sum abs sorted reversed int str bool list tuple dict set isinstance ord repr any "
    "all divmod ValueError".split())
METHODS = set(
    "append count endswith extend find get index insert isdigit isascii items join keys pop remove replace reverse "
    "setdefault split startswith strip update values bit_length".split())
BARRED = (
    "type typing enum Enum Generic Protocol ABC namedtuple dataclass overload contextmanager register mro elements "
    "open input law eval exec compile globals locals vars dir id exit quit help next map filter round hash format "
    "slice object iter pow print chr frozenset bytes super getattr setattr hasattr").split()
LIBRARY = {
    ("math", "gcd"), ("math", "lcm"), ("itertools", "permutations"), ("heapq", "heappush"), ("heapq", "heappop")}
SPECIAL = {"__init__", "__eq__"}
#: What is called but is no builtin of the list and no own name: the library, and names for functions of tables.
CALLED = {name for _, name in LIBRARY} | {"judge", "super", "grammar", "program"}
#: Attributes of some classes and methods of others: the document gives both these names.
BOTH = {"told", "labels"}


def parsed():
    return [(path, path.read_text(encoding="ascii")) for path in FILES]


class TestFiles(unittest.TestCase):
    def test_nothing_else_stands_in_the_package(self):
        self.assertTrue(all(path.suffix == ".py" and re.fullmatch("[a-z_]+", path.stem) for path in FILES))
        others = [path for path in PACKAGE.iterdir() if path.suffix != ".py" and path.name != "__pycache__"]
        self.assertEqual(others, [])

    def test_sizes(self):
        for path, text in parsed():
            lines = text.split("\n")
            self.assertLessEqual(len(lines), 399, path)
            self.assertLessEqual(max(map(len, lines)), 120, path)
            self.assertNotIn("\t", text)
            self.assertNotIn("\r", text)
            for node in ast.walk(ast.parse(text)):
                if isinstance(node, ast.FunctionDef):
                    self.assertLessEqual(node.end_lineno - node.lineno + 1, 40, (path, node.name))

    def test_imports(self):
        links = {}
        for path, text in parsed():
            tree = ast.parse(text)
            links[path.stem] = []
            for node in ast.walk(tree):
                self.assertNotIsInstance(node, ast.Import)
                if isinstance(node, ast.ImportFrom):
                    self.assertIn(node, tree.body)
                    for name in node.names:
                        self.assertIsNone(name.asname)
                        if node.module.startswith("roundwright."):
                            home = node.module.split(".")[1]
                            links[path.stem].append(home)
                            self.assertIn(name.name, self.defined(home), path)
                        else:
                            self.assertIn((node.module, name.name), LIBRARY)
        for stem in links:
            self.assertNotIn(stem, self.reached(links, stem), "files import from each other")

    def defined(self, stem):
        found = []
        for node in ast.parse((PACKAGE / f"{stem}.py").read_text()).body:
            if isinstance(node, (ast.FunctionDef, ast.ClassDef)):
                found.append(node.name)
            elif isinstance(node, ast.Assign):
                found.append(node.targets[0].id)
        return found

    def reached(self, links, stem):
        found, waiting = set(), list(links[stem])
        while waiting:
            name = waiting.pop()
            if name not in found:
                found.add(name)
                waiting += links[name]
        return found


class TestCode(unittest.TestCase):
    def test_module_level(self):
        for path, text in parsed():
            names = []
            for at, node in enumerate(ast.parse(text).body):
                if isinstance(node, ast.Expr):
                    self.assertEqual(at, 0)
                    self.assertIsInstance(node.value, ast.Constant)
                elif isinstance(node, ast.ImportFrom):
                    names += [name.name for name in node.names]
                elif isinstance(node, (ast.FunctionDef, ast.ClassDef)):
                    names.append(node.name)
                    self.assertEqual(node.decorator_list, [])
                else:
                    self.assertIsInstance(node, ast.Assign, path)
                    names.append(node.targets[0].id)
            self.assertEqual(len(names), len(set(names)), path)

    def test_no_other_nodes(self):
        barred = (
            ast.Lambda, ast.GeneratorExp, ast.Yield, ast.YieldFrom, ast.Global, ast.Nonlocal, ast.With, ast.Match,
            ast.NamedExpr, ast.Set, ast.SetComp, ast.AnnAssign, ast.Div, ast.Pow, ast.Assert,
            ast.AsyncFunctionDef, ast.Await, ast.Starred)
        for path, text in parsed():
            for node in ast.walk(ast.parse(text)):
                self.assertNotIsInstance(node, barred, (path, getattr(node, "lineno", 0)))
                if isinstance(node, ast.Constant):
                    self.assertNotIsInstance(node.value, (float, bytes, complex))
                    if isinstance(node.value, str):
                        self.assertNotIn("%", node.value)

    def test_names(self):
        for path, text in parsed():
            tree = ast.parse(text)
            globals_here = set()
            for node in tree.body:
                if isinstance(node, ast.ImportFrom):
                    globals_here.update(name.name for name in node.names)
                elif isinstance(node, ast.ClassDef):
                    globals_here.add(node.name)
                    self.assertRegex(node.name, "^[A-Z][A-Za-z]*$")
            for node in ast.walk(tree):
                bound = []
                if isinstance(node, ast.Name) and isinstance(node.ctx, ast.Store):
                    bound = [node.id]
                elif isinstance(node, ast.arg):
                    bound = [node.arg]
                elif isinstance(node, ast.FunctionDef):
                    bound = [node.name]
                for name in bound:
                    self.assertRegex(name, "^(_?[A-Za-z][A-Za-z0-9_]*|_|__init__|__eq__)$")
                    self.assertNotIn(name, globals_here, (path, node.lineno))
                    self.assertNotIn(name, BUILTINS, (path, node.lineno))
                    self.assertNotIn(name, BARRED, (path, node.lineno))

    def test_calls(self):
        own = set()
        for _, text in parsed():
            for node in ast.walk(ast.parse(text)):
                if isinstance(node, (ast.FunctionDef, ast.ClassDef)):
                    own.add(node.name)
        for path, text in parsed():
            for node in ast.walk(ast.parse(text)):
                if not isinstance(node, ast.Call):
                    continue
                where = (path, node.lineno)
                if isinstance(node.func, ast.Name):
                    self.assertIn(node.func.id, own | BUILTINS | CALLED, where)
                    words = [word.arg for word in node.keywords]
                    if node.func.id in BUILTINS:
                        self.assertIn(words, ([], ["default"]), where)
                else:
                    self.assertIn(node.func.attr, own | METHODS | SPECIAL, where)
                    self.assertEqual(node.keywords, [], where)

    def test_super_makes_objects_alone(self):
        for path, text in parsed():
            self.assertEqual(text.count("super()"), text.count("super().__init__("))
            if path.stem != "errors":
                self.assertEqual(text.count(".__init__"), text.count("super().__init__("), path)

    def test_things_deleted_are_items_and_slices(self):
        for path, text in parsed():
            for node in ast.walk(ast.parse(text)):
                if isinstance(node, ast.Delete):
                    self.assertTrue(all(isinstance(part, ast.Subscript) for part in node.targets), path)

    def test_sets_are_only_measured_and_sorted(self):
        for path, text in parsed():
            tree = ast.parse(text)
            held = [inner for node in ast.walk(tree) if isinstance(node, ast.Call) for inner in node.args
                    if isinstance(node.func, ast.Name) and node.func.id in ("len", "sorted")]
            for node in ast.walk(tree):
                if isinstance(node, ast.Call) and isinstance(node.func, ast.Name) and node.func.id == "set":
                    self.assertIn(node, held, (path, node.lineno))

    def test_handlers_name_own_errors(self):
        for path, text in parsed():
            for node in ast.walk(ast.parse(text)):
                if isinstance(node, ast.ExceptHandler):
                    kinds = node.type.elts if isinstance(node.type, ast.Tuple) else [node.type]
                    self.assertTrue(all(kind.id in ("NotNow", "BadPhrase", "TooMany") for kind in kinds), path)
                if isinstance(node, ast.Raise):
                    self.assertIsInstance(node.exc, ast.Call)
                if isinstance(node, ast.Compare) and isinstance(node.ops[0], (ast.Is, ast.IsNot)):
                    self.assertIsInstance(node.comparators[0], ast.Constant)

    def test_attributes_and_methods_have_different_names(self):
        attributes, methods = {}, {}
        for path, text in parsed():
            for node in ast.walk(ast.parse(text)):
                if isinstance(node, ast.ClassDef):
                    methods[node.name] = {part.name for part in node.body if isinstance(part, ast.FunctionDef)}
                    attributes[node.name] = {
                        inner.attr for inner in ast.walk(node)
                        if isinstance(inner, ast.Attribute) and isinstance(inner.ctx, ast.Store)}
        every = set().union(*attributes.values())
        both = {(name, word) for name, group in methods.items() for word in (group & every) - SPECIAL - BOTH}
        self.assertEqual(both, set())
        for name, group in methods.items():
            self.assertEqual(group & attributes[name], set())
        barred = set("items keys values pop update append clear extend insert remove reverse setdefault sort args "
                     "encode decode hex format".split())
        self.assertEqual(every & barred, set())

    def test_words(self):
        for path, text in parsed():
            for word in ("_wall", "dataclass", "overload", "contextmanager", "typing", "namedtuple", "Protocol"):
                self.assertNotIn(word, text, path)


if __name__ == "__main__":
    unittest.main()
