"""The package keeps to its subset of Python: sizes, characters, imports, names, and what is called."""

import ast
import builtins
import pathlib
import re
import unittest

# What may come from Python's library, and how many arguments each takes.
LIBRARY = {"math": {"lcm": 2, "factorial": 1}, "itertools": {"permutations": 2}}

FOLDER = pathlib.Path(__file__).resolve().parent.parent / "walkclubs"
FILES = sorted(path for path in FOLDER.iterdir() if path.name != "__pycache__")
TREES = {path.name: ast.parse(path.read_text()) for path in FILES}

BUILTINS = set(
    "len range enumerate zip min max sum abs sorted reversed int str bool list tuple dict set isinstance any all divmod"
    " ValueError None True False property".split()
)
METHODS = set(
    "append clear copy count endswith extend find get index insert items join keys pop remove replace reverse"
    " setdefault split startswith strip update values bit_length add discard partition".split()
)
NODES_NOT_USED = (
    ast.Global, ast.Nonlocal, ast.AsyncFunctionDef, ast.Await, ast.GeneratorExp, ast.NamedExpr, ast.Div, ast.Try,
    ast.With, ast.Yield, ast.YieldFrom, ast.AnnAssign, ast.Starred,
)
WORDS_NOT_USED = (
    r"\b(type|typing|enum|Enum|Generic|Protocol|ABC|namedtuple|register|mro|elements|open|input|law|eval|exec|vars)\b"
)


def bound_names(tree):
    """All names that a file gives to anything: variables, parameters, functions, classes."""
    for node in ast.walk(tree):
        if isinstance(node, ast.Name) and isinstance(node.ctx, ast.Store):
            yield node.id
        elif isinstance(node, ast.arg):
            yield node.arg
        elif isinstance(node, (ast.FunctionDef, ast.ClassDef)):
            yield node.name


def local_names(tree):
    """The names of parameters and of what functions assign."""
    for function in ast.walk(tree):
        if isinstance(function, ast.FunctionDef):
            for node in ast.walk(function):
                if isinstance(node, ast.arg):
                    yield node.arg
                elif isinstance(node, ast.Name) and isinstance(node.ctx, ast.Store):
                    yield node.id


def imported_names(tree):
    return [name.name for node in tree.body if isinstance(node, ast.ImportFrom) for name in node.names]


class Language(unittest.TestCase):
    def test_files(self):
        for path in FILES:
            self.assertRegex(path.name, r"^[a-z_][a-z0-9_]*\.py$")
            text = path.read_text()
            self.assertTrue(all(" " <= sign <= "~" or sign == "\n" for sign in text), path.name)
            lines = text.splitlines()
            self.assertLess(len(lines), 400, path.name)
            for number, line in enumerate(lines, 1):
                self.assertLessEqual(len(line), 120, f"{path.name}:{number}")

    def test_functions_are_small(self):
        for name, tree in TREES.items():
            for node in ast.walk(tree):
                if isinstance(node, ast.FunctionDef):
                    self.assertLessEqual(node.end_lineno - node.lineno + 1, 40, f"{name}: {node.name}")
                    self.assertTrue(node.name.startswith("__") or ast.get_docstring(node), f"{name}: {node.name}")

    def test_imports(self):
        for name, tree in TREES.items():
            defined = {node.name for node in tree.body if isinstance(node, (ast.FunctionDef, ast.ClassDef))}
            for node in ast.walk(tree):
                self.assertNotIsInstance(node, ast.Import, name)
                if isinstance(node, ast.ImportFrom) and node.module in LIBRARY:
                    self.assertIn(node, tree.body)
                    self.assertLessEqual({part.name for part in node.names}, set(LIBRARY[node.module]), name)
                elif isinstance(node, ast.ImportFrom):
                    self.assertIn(node, tree.body)
                    package, _, module = node.module.partition(".")
                    self.assertEqual(package, "walkclubs", name)
                    homes = TREES[module + ".py"].body
                    there = {part.name for part in homes if isinstance(part, (ast.FunctionDef, ast.ClassDef))}
                    there |= {target.id for part in homes if isinstance(part, ast.Assign) for target in part.targets}
                    self.assertLessEqual({part.name for part in node.names}, there, name)
            words = re.findall(r"\w+", (FOLDER / name).read_text())
            for imported in imported_names(tree):
                self.assertNotIn(imported, defined)
                self.assertGreater(words.count(imported), 1, f"{name}: {imported} is imported for nothing")

    def test_the_library_is_called_plainly(self):
        takes = {word: count for words in LIBRARY.values() for word, count in words.items()}
        for name, tree in TREES.items():
            used = set(takes) & set(imported_names(tree))
            called = [
                node.func for node in ast.walk(tree)
                if isinstance(node, ast.Call) and isinstance(node.func, ast.Name) and node.func.id in used
                and len(node.args) == takes[node.func.id] and not node.keywords
            ]
            for node in ast.walk(tree):
                if isinstance(node, ast.Name) and node.id in used:
                    self.assertTrue(any(node is func for func in called), f"{name}: {node.id}")

    def test_no_circles(self):
        wanted = {
            name: {
                node.module.split(".")[1] + ".py" for node in tree.body
                if isinstance(node, ast.ImportFrom) and node.module not in LIBRARY
            }
            for name, tree in TREES.items()
        }
        while wanted:
            ready = [name for name, needs in wanted.items() if not needs & set(wanted)]
            self.assertTrue(ready, wanted)
            for name in ready:
                del wanted[name]

    def test_names(self):
        for name, tree in TREES.items():
            self.assertFalse(set(bound_names(tree)) & set(dir(builtins)), name)
            classes = {node.name for node in tree.body if isinstance(node, ast.ClassDef)}
            functions = {node.name for node in tree.body if isinstance(node, ast.FunctionDef)}
            self.assertFalse(set(local_names(tree)) & (classes | functions | set(imported_names(tree))), name)
            for node in ast.walk(tree):
                words = [getattr(node, part, None) for part in ("id", "attr", "arg", "name")]
                words += [node.value] if isinstance(node, ast.Constant) else []
                for word in words:
                    if isinstance(word, str) and " " not in word:
                        self.assertIsNone(re.search(WORDS_NOT_USED, word), f"{name}: {word}")

    def test_what_stands_in_the_code(self):
        for name, tree in TREES.items():
            for node in ast.walk(tree):
                self.assertNotIsInstance(node, NODES_NOT_USED, name)
                if isinstance(node, ast.Constant):
                    self.assertNotIsInstance(node.value, float, name)
                    self.assertFalse(isinstance(node.value, str) and chr(37) in node.value, name)
                if isinstance(node, ast.BinOp) and isinstance(node.op, ast.Pow):
                    self.assertIsInstance(node.right, ast.Constant, name)
                if isinstance(node, ast.Set):
                    self.fail(f"{name}: a set is written")
                if isinstance(node, ast.Name) and node.id in dir(builtins):
                    self.assertIn(node.id, BUILTINS, name)
                if isinstance(node, ast.Compare):
                    for sign, right in zip(node.ops, node.comparators):
                        if isinstance(sign, (ast.Is, ast.IsNot)):
                            self.assertIsInstance(right, ast.Constant, name)

    def test_what_is_called(self):
        own = {node.name for tree in TREES.values() for node in ast.walk(tree) if isinstance(node, ast.FunctionDef)}
        for name, tree in TREES.items():
            for node in ast.walk(tree):
                if isinstance(node, ast.Call) and isinstance(node.func, ast.Attribute):
                    self.assertIn(node.func.attr, METHODS | own, name)
                if isinstance(node, ast.Call) and isinstance(node.func, ast.Name) and node.func.id in BUILTINS:
                    keywords = {word.arg for word in node.keywords}
                    self.assertLessEqual(keywords, {"key", "reverse", "default", "start", "strict"}, name)

    def test_what_is_kept_is_gone_over_plainly(self):
        once = {"zip", "enumerate", "reversed"}
        for name, tree in TREES.items():
            for function in ast.walk(tree):
                if isinstance(function, ast.FunctionDef):
                    kept = {
                        node.targets[0].id for node in ast.walk(function)
                        if isinstance(node, ast.Assign) and isinstance(node.targets[0], ast.Name)
                        and isinstance(node.value, ast.Call) and getattr(node.value.func, "id", None) in once
                    }
                    for node in ast.walk(function):
                        if isinstance(node, ast.Call) and getattr(node.func, "id", None) in once:
                            words = {part.id for part in node.args if isinstance(part, ast.Name)}
                            self.assertFalse(words & kept, f"{name}: {function.name}")

    def test_classes(self):
        classes = [node for tree in TREES.values() for node in tree.body if isinstance(node, ast.ClassDef)]
        methods = [(kind, part) for kind in classes for part in kind.body if isinstance(part, ast.FunctionDef)]
        functions = [node for tree in TREES.values() for node in ast.walk(tree) if isinstance(node, ast.FunctionDef)]
        properties = set()
        for function in functions:
            for sign in function.decorator_list:
                self.assertEqual(ast.unparse(sign), "property")
                self.assertIn(function, [part for _, part in methods])
                self.assertEqual([part.arg for part in function.args.args], ["self"])
                properties.add(function.name)
        plain = {part.name for _, part in methods if not part.decorator_list}
        own = {name for name in plain if name.startswith("__")}
        self.assertLessEqual(own, {"__init__", "__eq__", "__len__"})
        stored = {
            (kind.name, node.attr) for kind in classes for node in ast.walk(kind)
            if isinstance(node, ast.Attribute) and isinstance(node.ctx, ast.Store)
        }
        self.assertFalse(properties & plain)
        self.assertFalse(properties & {name for _, name in stored})
        self.assertFalse({name for _, name in stored} & plain)
        for kind in (str, int, list, dict, set, tuple, bytes):
            self.assertFalse(properties & set(dir(kind)))
            self.assertFalse((plain - own) & set(dir(kind)))
        for _, method in methods:
            if method.name in properties | {"__eq__", "__len__"}:
                self.assertIsInstance(method.body[-1], ast.Return)
                for node in ast.walk(method):
                    self.assertNotIsInstance(node, (ast.Assign, ast.AugAssign, ast.Delete))
                    if isinstance(node, ast.Call):
                        self.assertIn(node.func.id, ("len", "tuple", "isinstance"))

    def test_one_docstring_for_each_file(self):
        for name, tree in TREES.items():
            self.assertTrue(ast.get_docstring(tree), name)


if __name__ == "__main__":
    unittest.main()
