"""What of ../shared/LANGUAGE.md can be seen in the files of the package without much ado."""

import ast
import builtins
import os
import unittest
import warnings

TOP = os.path.dirname(os.path.dirname(os.path.abspath(__file__)))
PACKAGE = os.path.join(TOP, "volumehall")
BUILTINS = set("""
len range enumerate zip min max sum abs sorted reversed int str bool bytes list tuple dict set frozenset isinstance
ord repr any all divmod map iter next Exception ValueError TypeError KeyError IndexError LookupError ZeroDivisionError
ArithmeticError OverflowError RuntimeError NotImplementedError AttributeError StopIteration NotImplemented
""".split())
LIBRARY = {
    "heapq": ("heappush", "heappop", "heapify", "heapreplace", "heappushpop"),
    "math": ("gcd", "lcm", "isqrt", "comb", "perm", "factorial"),
    "itertools": ("product", "combinations", "permutations"),
    "__future__": ("annotations",),
}
# The interface by its files: the functions, and the classes with their methods.
INTERFACE = {
    "errors": {
        "VolumeError": (), "BadSizes": (), "NoDisk": (), "NoBlock": (), "BadNumber": (), "Stopped": (),
        "BadVolume": (), "NoVolume": (), "Full": (), "Lost": (), "BadText": (),
    },
    "bench": {
        "Bench": (
            "__init__(self, sizes)", "get(self, disk, piece, block)", "put(self, disk, piece, block, number)",
            "sheet(self, disk)", "lay(self, disk, sheet)", "lose(self, disk)", "bring(self, disk, pieces)",
            "sizes(self)", "deeds(self)", "arm(self, count)", "again(self)",
        ),
    },
    "maps": {"judge": "judge(sizes, sheet)"},
    "hall": {
        "Hall": (
            "__init__(self, bench)", "make(self, name, pieces, copies)", "grow(self, name, pieces)", "drop(self, name)",
            "mirror(self, name, copies)", "leave(self, disk)", "stay(self, disk)", "write(self, name, block, number)",
            "read(self, name, block)", "room(self, copies)", "step(self)", "copying(self)", "lacks(self)",
            "volumes(self)", "places(self, name)", "lost(self)",
        ),
    },
    "plays": {
        "Play": ("__init__(self, sizes)", "do(self, step)"),
        "played": "played(sizes, steps)", "written": "written(steps)", "read": "read(text)",
    },
}


def sources():
    """The text of each file of the package, by its name."""
    found = {}
    for name in sorted(os.listdir(PACKAGE)):
        if name != "__pycache__":
            with open(os.path.join(PACKAGE, name), encoding="utf-8", newline="") as file:
                found[name] = file.read()
    return found


def defined(tree):
    """The functions and classes at the top of a file."""
    return {node.name: node for node in tree.body if isinstance(node, (ast.FunctionDef, ast.ClassDef))}


def head_of(node):
    """A function's name and its arguments."""
    return f"{node.name}({ast.unparse(node.args)})"


class Language(unittest.TestCase):
    def setUp(self):
        self.sources = sources()
        self.trees = {name: ast.parse(text) for name, text in self.sources.items()}

    def nodes(self, *kinds):
        """All nodes of some kinds, each with the name of its file."""
        for name, tree in self.trees.items():
            for node in ast.walk(tree):
                if isinstance(node, kinds):
                    yield name, node

    def test_files(self):
        self.assertIn("__init__.py", self.sources)
        for name, text in self.sources.items():
            self.assertRegex(name, r"\A[a-z0-9_]+\.py\Z")
            self.assertRegex(text, r"\A[ -~\n]*\Z", msg=name)
            lines = text.split("\n")
            self.assertLessEqual(len(lines), 400, msg=name)
            self.assertLessEqual(max(len(line) for line in lines), 120, msg=name)

    def test_python_gives_no_warning(self):
        with warnings.catch_warnings():
            warnings.simplefilter("error")
            for name, text in self.sources.items():
                compile(text, name, "exec")

    def test_functions_have_at_most_40_lines(self):
        for name, node in self.nodes(ast.FunctionDef):
            self.assertLess(node.end_lineno - node.lineno, 40, msg=(name, node.name))

    def test_imports_name_the_file_that_defines(self):
        for name, node in self.nodes(ast.Import, ast.ImportFrom):
            self.assertIsInstance(node, ast.ImportFrom, msg=name)
            self.assertEqual(0, node.level)
            for alias in node.names:
                self.assertIsNone(alias.asname)
                if node.module in LIBRARY:
                    self.assertIn(alias.name, LIBRARY[node.module])
                    continue
                package, _, file = node.module.partition(".")
                self.assertEqual("volumehall", package)
                self.assertIn(alias.name, list(defined(self.trees[file + ".py"])) + self.values(file + ".py"))

    def values(self, name):
        """The names that are assigned values at the top of a file."""
        return [node.targets[0].id for node in self.trees[name].body if isinstance(node, ast.Assign)]

    def test_the_top_of_a_file_holds_plain_things_only(self):
        for name, tree in self.trees.items():
            for node in tree.body:
                plain = isinstance(node, (ast.ImportFrom, ast.FunctionDef, ast.ClassDef, ast.Assign))
                docstring = isinstance(node, ast.Expr) and isinstance(node.value, ast.Constant)
                self.assertTrue(plain or docstring, msg=(name, node.lineno))

    def test_no_other_builtin_is_used_and_none_is_given_another_meaning(self):
        for name, node in self.nodes(ast.Name, ast.arg):
            told = node.arg if isinstance(node, ast.arg) else node.id
            if hasattr(builtins, told):
                self.assertIn(told, BUILTINS, msg=(name, node.lineno))
                self.assertTrue(isinstance(node, ast.Name) and isinstance(node.ctx, ast.Load), msg=(name, node.lineno))

    def test_some_signs_and_statements_are_not_used(self):
        barred = (
            ast.Global, ast.AsyncFunctionDef, ast.AsyncFor, ast.AsyncWith, ast.Await, ast.Div, ast.MatMult,
        )
        self.assertEqual([], [(name, node) for name, node in self.nodes(*barred)])
        for name, node in self.nodes(ast.Constant):
            self.assertNotIsInstance(node.value, (float, complex), msg=name)
            if isinstance(node.value, str):
                self.assertNotIn("%", node.value, msg=(name, node.lineno))

    def test_is_stands_beside_none_and_truths(self):
        for name, node in self.nodes(ast.Compare):
            for sign, side in zip(node.ops, node.comparators):
                if isinstance(sign, (ast.Is, ast.IsNot)):
                    self.assertIsInstance(side, ast.Constant, msg=(name, node.lineno))

    def test_no_name_is_a_method_and_an_attribute(self):
        for name, node in self.nodes(ast.ClassDef):
            methods = [part.name for part in node.body if isinstance(part, ast.FunctionDef)]
            stored = [
                part.attr for part in ast.walk(node)
                if isinstance(part, ast.Attribute) and isinstance(part.ctx, ast.Store)
            ]
            self.assertEqual(len(methods), len(set(methods)), msg=(name, node.name))
            self.assertEqual([], sorted(set(methods) & set(stored)), msg=(name, node.name))

    def test_no_name_is_a_method_here_and_an_attribute_there(self):
        methods = {
            part.name for _, node in self.nodes(ast.ClassDef) for part in node.body if isinstance(part, ast.FunctionDef)
        }
        stored = {node.attr for _, node in self.nodes(ast.Attribute) if isinstance(node.ctx, ast.Store)}
        self.assertEqual([], sorted(methods & stored))

    def test_attributes_are_assigned_through_a_name(self):
        for name, node in self.nodes(ast.Attribute):
            if not isinstance(node.ctx, ast.Load):
                self.assertIsInstance(node.value, ast.Name, msg=(name, node.lineno))

    def test_no_variable_has_the_name_of_a_class_or_an_import(self):
        for name, tree in self.trees.items():
            kept = {node.name for node in tree.body if isinstance(node, ast.ClassDef)}
            for node in tree.body:
                if isinstance(node, ast.ImportFrom):
                    kept |= {alias.name for alias in node.names}
            used = {node.arg for node in ast.walk(tree) if isinstance(node, ast.arg)}
            used |= {node.id for node in ast.walk(tree) if isinstance(node, ast.Name) and isinstance(node.ctx, ast.Store)}
            used |= {node.name for node in ast.walk(tree) if isinstance(node, ast.MatchAs) and node.name}
            self.assertEqual([], sorted(kept & used), msg=name)

    def test_all_that_is_imported_is_used(self):
        for name, tree in self.trees.items():
            loaded = {node.id for node in ast.walk(tree) if isinstance(node, ast.Name)}
            for node in tree.body:
                if isinstance(node, ast.ImportFrom):
                    for alias in node.names:
                        self.assertIn(alias.name, loaded, msg=name)

    def test_no_files_import_from_each_other(self):
        ahead = {
            name: [node.module.partition(".")[2] + ".py" for node in tree.body if isinstance(node, ast.ImportFrom)]
            for name, tree in self.trees.items()
        }
        while ahead:
            free = [name for name in ahead if not any(other in ahead for other in ahead[name])]
            self.assertNotEqual([], free, msg=ahead)
            for name in free:
                del ahead[name]

    def test_the_interface_stands_where_it_is_listed(self):
        for file, wished in INTERFACE.items():
            found = defined(self.trees[file + ".py"])
            for name, methods in wished.items():
                self.assertIn(name, found)
                if isinstance(methods, str):
                    self.assertEqual(methods, head_of(found[name]))
                    continue
                heads = [head_of(node) for node in found[name].body if isinstance(node, ast.FunctionDef)]
                for head in methods:
                    self.assertIn(head, heads)

    def test_no_word_that_is_kept_from_all_files(self):
        for name, text in self.sources.items():
            for word in ("_wall", "_WallAttr", "dataclass", "overload", "contextmanager"):
                self.assertNotIn(word, text, msg=name)


if __name__ == "__main__":
    unittest.main()
