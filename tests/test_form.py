"""The form of the code: what of LANGUAGE.md a reading of the files can tell.

The checks are a little narrower than the rules: they allow what the package needs.
"""

import ast
import builtins
import re
import unittest
from pathlib import Path

FOLDER = Path(__file__).resolve().parent.parent / "centsatonce"
FILES = sorted(FOLDER.glob("*.py"))
BUILTINS = set(dir(builtins))
ALLOWED_BUILTINS = {
    "len", "range", "enumerate", "zip", "min", "max", "sum", "abs", "sorted", "reversed", "int", "str", "bool", "list",
    "tuple", "dict", "set", "isinstance", "ord", "repr", "any", "all", "divmod", "ValueError", "KeyError", "True", "False",
    "None",
}
FROM_LIBRARY = {"math": {"gcd", "lcm", "isqrt", "comb"}, "itertools": {"product", "combinations", "permutations"}}
METHODS = {
    "append", "clear", "copy", "count", "endswith", "extend", "find", "get", "index", "insert", "items", "join", "keys",
    "partition", "pop", "remove", "replace", "reverse", "rstrip", "lstrip", "setdefault", "split", "startswith", "strip",
    "update", "values", "zfill", "bit_length",
}
BARRED_WORDS = re.compile(
    r"\b(type|typing|typing_extensions|enum|Enum|IntEnum|StrEnum|Flag|IntFlag|Generic|Protocol|ABC|ABCMeta|namedtuple|"
    r"NamedTuple|TypedDict|TYPE_CHECKING|abstractmethod)\b|dataclass|overload|contextmanager|_wall|_WallAttr")
NEVER = {"register", "mro", "elements", "open", "input", "law", "version_info", "with_traceback", "add_note"}
BARRED_NODES = (
    ast.GeneratorExp, ast.Yield, ast.YieldFrom, ast.Await, ast.AsyncFunctionDef, ast.Global, ast.Nonlocal, ast.Import,
    ast.Lambda, ast.NamedExpr, ast.Starred, ast.With, ast.Match, ast.Div, ast.MatMult, ast.JoinedStr,
    ast.AnnAssign, ast.Delete, ast.Assert,
)
STATEMENTS = (
    ast.Assign, ast.AugAssign, ast.If, ast.While, ast.For, ast.Return, ast.Break, ast.Continue, ast.Pass, ast.Raise,
    ast.Try, ast.Expr, ast.FunctionDef, ast.ClassDef, ast.ImportFrom,
)
DUNDERS = {"__init__", "__eq__"}


def parents_of(tree):
    """A dict from each node to the one around it."""
    return {child: node for node in ast.walk(tree) for child in ast.iter_child_nodes(node)}


def bound_names(tree):
    """All names that functions of a tree assign, and their parameters."""
    for node in ast.walk(tree):
        if isinstance(node, ast.Name) and isinstance(node.ctx, ast.Store):
            yield node.id
        elif isinstance(node, ast.arg):
            yield node.arg
        elif isinstance(node, ast.ExceptHandler) and node.name:
            yield node.name


class Form(unittest.TestCase):

    def setUp(self):
        self.texts = {path: path.read_text(encoding="utf-8") for path in FILES}
        self.trees = {path: ast.parse(text) for path, text in self.texts.items()}

    def each(self, *kinds):
        """Each node of some kinds, with a word that tells where it is."""
        for path, tree in self.trees.items():
            for node in ast.walk(tree):
                if isinstance(node, kinds):
                    yield node, f"{path.name}:{getattr(node, 'lineno', 0)}"

    def own_classes(self):
        return {node.name for node, _ in self.each(ast.ClassDef)}

    def test_folder(self):
        self.assertLessEqual(len(FILES), 100)
        self.assertIn("__init__.py", [path.name for path in FILES])
        for path in FOLDER.iterdir():
            if path.name != "__pycache__":
                self.assertRegex(path.name, r"^[a-z_][a-z0-9_]*\.py$")
                self.assertNotIn(path.stem, BUILTINS)

    def test_signs_and_lengths(self):
        for path, text in self.texts.items():
            self.assertTrue(all(" " <= sign <= "~" or sign == "\n" for sign in text), path.name)
            lines = text.split("\n")
            self.assertLessEqual(len(lines), 399, path.name)
            self.assertTrue(all(len(line) <= 120 and line == line.rstrip() for line in lines), path.name)
            self.assertTrue(text.endswith("\n") and not text.endswith("\n\n"), path.name)

    def test_functions_are_small(self):
        for node, place in self.each(ast.FunctionDef):
            self.assertLessEqual(node.end_lineno - node.lineno + 1, 40, place)

    def test_all_is_told(self):
        for path, tree in self.trees.items():
            self.assertTrue(ast.get_docstring(tree), path.name)
        for node, place in self.each(ast.FunctionDef, ast.ClassDef):
            if node.name not in DUNDERS:
                self.assertTrue(ast.get_docstring(node), place)

    def test_statements(self):
        for node, place in self.each(ast.stmt):
            self.assertIsInstance(node, STATEMENTS, place)
        for node, place in self.each(*BARRED_NODES):
            self.fail(place)
        for node, place in self.each(ast.FunctionDef, ast.ClassDef):
            self.assertEqual(node.decorator_list, [], place)
        for node, place in self.each(ast.Constant):
            self.assertNotIsInstance(node.value, (float, complex, bytes), place)

    def test_imports(self):
        for path, tree in self.trees.items():
            begun = False
            for node in tree.body:
                if isinstance(node, ast.ImportFrom):
                    self.assertFalse(begun, path.name)
                    self.check_import(path, node)
                elif not isinstance(node, ast.Expr):
                    begun = True

    def check_import(self, path, node):
        place = f"{path.name}:{node.lineno}"
        self.assertEqual(node.level, 0, place)
        names = {alias.name for alias in node.names}
        self.assertTrue(all(alias.asname is None for alias in node.names), place)
        if node.module in FROM_LIBRARY:
            self.assertLessEqual(names, FROM_LIBRARY[node.module], place)
            return
        package, _, file = node.module.partition(".")
        self.assertEqual(package, "centsatonce", place)
        other = self.trees[FOLDER / (file + ".py")]
        self.assertLessEqual(names, self.defined(other), place)
        used = {item.id for item in ast.walk(self.trees[path]) if isinstance(item, ast.Name)}
        self.assertLessEqual(names, used, place)

    def defined(self, tree):
        """The names that a file binds itself."""
        names = {node.name for node in tree.body if isinstance(node, (ast.FunctionDef, ast.ClassDef))}
        return names | {target.id for node in tree.body if isinstance(node, ast.Assign) for target in node.targets}

    def test_no_two_files_import_from_each_other(self):
        ahead = {}
        for path, tree in self.trees.items():
            modules = [node.module for node in tree.body if isinstance(node, ast.ImportFrom)]
            ahead[path.stem] = {module.split(".")[1] for module in modules if module.startswith("centsatonce.")}
        while ahead:
            free = [name for name, needed in ahead.items() if not needed & set(ahead)]
            self.assertTrue(free, sorted(ahead))
            for name in free:
                del ahead[name]

    def test_module_level(self):
        for path, tree in self.trees.items():
            names = []
            for at, node in enumerate(tree.body):
                place = f"{path.name}:{node.lineno}"
                if isinstance(node, ast.Expr):
                    self.assertEqual(at, 0, place)
                elif isinstance(node, ast.Assign):
                    self.assertEqual(len(node.targets), 1, place)
                    self.assertIsNotNone(ast.literal_eval(node.value), place)
                    names.append(node.targets[0].id)
                elif isinstance(node, ast.ImportFrom):
                    names.extend(alias.name for alias in node.names)
                else:
                    self.assertIsInstance(node, (ast.FunctionDef, ast.ClassDef), place)
                    names.append(node.name)
            self.assertEqual(len(set(names)), len(names), path.name)
            self.assertFalse(set(names) & BUILTINS, path.name)

    def test_names(self):
        for path, tree in self.trees.items():
            taken = {alias.name for node in tree.body if isinstance(node, ast.ImportFrom) for alias in node.names}
            taken |= {node.name for node in tree.body if isinstance(node, (ast.FunctionDef, ast.ClassDef))}
            for name in bound_names(tree):
                self.assertNotIn(name, BUILTINS | taken | NEVER, path.name)
                self.assertRegex(name, r"^(_|_?[a-z][a-z0-9_]*|[A-Z][A-Z_]*)$", path.name)
        for node, place in self.each(ast.Attribute, ast.FunctionDef):
            name = node.attr if isinstance(node, ast.Attribute) else node.name
            self.assertNotIn(name, NEVER, place)
            self.assertTrue(not name.startswith("__") or name in DUNDERS, place)

    def test_barred_words(self):
        for path, tree in self.trees.items():
            docs = {id(node.body[0].value) for node in ast.walk(tree)
                    if isinstance(node, (ast.Module, ast.ClassDef, ast.FunctionDef)) and ast.get_docstring(node)}
            for node in ast.walk(tree):
                words = [getattr(node, word, None) for word in ("id", "attr", "arg", "name")]
                if isinstance(node, ast.Constant) and id(node) not in docs:
                    words.append(node.value)
                    if isinstance(node.value, str):
                        self.assertNotIn("%", node.value, path.name)
                for word in words:
                    if isinstance(word, str):
                        self.assertIsNone(BARRED_WORDS.search(word), (path.name, word))

    def test_calls(self):
        own = {node.name for node, _ in self.each(ast.FunctionDef, ast.ClassDef)}
        for path, tree in self.trees.items():
            local = self.defined(tree) | {alias.name for node in tree.body if isinstance(node, ast.ImportFrom)
                                          for alias in node.names}
            for node in ast.walk(tree):
                if isinstance(node, ast.Name) and isinstance(node.ctx, ast.Load) and node.id in BUILTINS:
                    self.assertIn(node.id, ALLOWED_BUILTINS, path.name)
                if isinstance(node, ast.Call) and isinstance(node.func, ast.Attribute):
                    self.assertIn(node.func.attr, METHODS | own, f"{path.name}:{node.lineno}")
                elif isinstance(node, ast.Call):
                    self.assertIsInstance(node.func, ast.Name, path.name)
                    self.assertIn(node.func.id, local | ALLOWED_BUILTINS, f"{path.name}:{node.lineno}")
                    if node.func.id in BUILTINS:
                        self.assertLessEqual({word.arg for word in node.keywords}, {"key", "default", "start"}, path.name)

    def test_functions_and_classes_are_no_values(self):
        for path, tree in self.trees.items():
            around = parents_of(tree)
            barred = {node.name for node in tree.body if isinstance(node, (ast.FunctionDef, ast.ClassDef))}
            barred |= {alias.name for node in tree.body if isinstance(node, ast.ImportFrom) for alias in node.names
                       if not alias.name.isupper()} | (ALLOWED_BUILTINS - {"True", "False", "None"})
            for node in ast.walk(tree):
                if not isinstance(node, ast.Name) or node.id not in barred or isinstance(node.ctx, ast.Store):
                    continue
                outer = around[node]
                called = isinstance(outer, ast.Call) and outer.func is node
                asked = isinstance(outer, ast.Call) and isinstance(outer.func, ast.Name) and outer.func.id == "isinstance"
                other = isinstance(outer, (ast.ClassDef, ast.ExceptHandler))
                self.assertTrue(called or asked or other, f"{path.name}:{node.lineno} {node.id}")

    def test_sets(self):
        for path, tree in self.trees.items():
            around = parents_of(tree)
            for node in ast.walk(tree):
                if isinstance(node, (ast.Set, ast.SetComp)):
                    self.fail(f"{path.name}:{node.lineno}")
                if isinstance(node, ast.Call) and isinstance(node.func, ast.Name) and node.func.id == "set":
                    outer = around[node]
                    self.assertIsInstance(outer, ast.Call, f"{path.name}:{node.lineno}")
                    self.assertIn(outer.func.id, ("sorted", "len"), f"{path.name}:{node.lineno}")
                    self.assertFalse(outer.keywords, f"{path.name}:{node.lineno}")

    def test_iterated_at_once(self):
        views = {"zip", "enumerate", "reversed", "range"}
        takers = {"list", "tuple", "dict", "sorted", "sum", "any", "all", "enumerate", "zip", "min", "max"}
        for path, tree in self.trees.items():
            around = parents_of(tree)
            for node in ast.walk(tree):
                if not isinstance(node, ast.Call):
                    continue
                is_view = isinstance(node.func, ast.Name) and node.func.id in views - {"range"}
                is_view = is_view or isinstance(node.func, ast.Attribute) and node.func.attr in ("items", "keys", "values")
                if is_view:
                    outer = around[node]
                    looped = isinstance(outer, (ast.For, ast.comprehension)) and outer.iter is node
                    taken = isinstance(outer, ast.Call) and (
                        isinstance(outer.func, ast.Name) and outer.func.id in takers or
                        isinstance(outer.func, ast.Attribute) and outer.func.attr == "join")
                    self.assertTrue(looped or taken, f"{path.name}:{node.lineno}")

    def test_loops_do_not_change_what_they_go_over(self):
        changing = {"append", "extend", "insert", "pop", "remove", "clear", "update", "setdefault", "reverse"}
        for node, place in self.each(ast.For):
            over = {item.id for item in ast.walk(node.iter) if isinstance(item, ast.Name)}
            for inner in [item for row in node.body for item in ast.walk(row)]:
                if isinstance(inner, ast.Call) and isinstance(inner.func, ast.Attribute) and inner.func.attr in changing:
                    if isinstance(inner.func.value, ast.Name):
                        self.assertNotIn(inner.func.value.id, over, place)
                if isinstance(inner, (ast.Assign, ast.AugAssign)):
                    targets = inner.targets if isinstance(inner, ast.Assign) else [inner.target]
                    for target in targets:
                        if isinstance(target, ast.Subscript) and isinstance(target.value, ast.Name):
                            self.assertNotIn(target.value.id, over, place)

    def test_errors(self):
        own = {"TillError"} | {name for name in self.own_classes() if name.startswith("Invalid")} | {"Refused", "Broken"}
        for node, place in self.each(ast.ExceptHandler):
            self.assertIn(getattr(node.type, "id", None), own, place)
        for node, place in self.each(ast.Raise):
            self.assertIsInstance(node.exc, ast.Call, place)
            self.assertIn(node.exc.func.id, own, place)
            self.assertIsNone(node.cause, place)

    def test_is(self):
        for node, place in self.each(ast.Compare):
            for sign, right in zip(node.ops, node.comparators):
                if isinstance(sign, (ast.Is, ast.IsNot)):
                    self.assertTrue(isinstance(right, ast.Constant) and right.value in (None, True, False), place)

    def test_powers(self):
        for node, place in self.each(ast.BinOp):
            if isinstance(node.op, ast.Pow):
                self.assertTrue(isinstance(node.right, ast.Constant) and 0 <= node.right.value <= 64, place)

    def test_classes(self):
        for node, place in self.each(ast.ClassDef):
            stored = {item.attr for item in ast.walk(node) if isinstance(item, ast.Attribute)
                      and isinstance(item.ctx, ast.Store)}
            methods = [item.name for item in node.body if isinstance(item, ast.FunctionDef)]
            self.assertEqual(len(set(methods)), len(methods), place)
            self.assertFalse(stored & set(methods), place)
            self.assertFalse(stored & METHODS, place)

    def test_defaults(self):
        for node, place in self.each(ast.FunctionDef):
            self.assertFalse(node.args.vararg or node.args.kwarg or node.args.kwonlyargs or node.args.posonlyargs, place)
            for default in node.args.defaults:
                self.assertIsInstance(default, (ast.Constant, ast.Tuple), place)
                self.assertIsNotNone(repr(ast.literal_eval(default)), place)
            self.assertIsNone(node.returns, place)


if __name__ == "__main__":
    unittest.main()
