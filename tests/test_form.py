"""The form of the package's code, as far as a short look at its syntax tells."""

import ast
import builtins
import pathlib
import re
import unittest

PACKAGE = pathlib.Path(__file__).resolve().parent.parent / "joinedjournals"

STATEMENTS = (ast.Assign, ast.AugAssign, ast.If, ast.While, ast.For, ast.Return, ast.Break, ast.Continue, ast.Pass,
              ast.Raise, ast.Try, ast.Expr, ast.FunctionDef, ast.ClassDef, ast.ImportFrom)
EXPRESSIONS = (ast.Constant, ast.List, ast.Tuple, ast.Dict, ast.BinOp, ast.UnaryOp, ast.Compare, ast.BoolOp, ast.IfExp,
               ast.Call, ast.Attribute, ast.Subscript, ast.Slice, ast.ListComp, ast.Name, ast.Lambda, ast.JoinedStr,
               ast.FormattedValue)
BUILT_IN = """len range enumerate zip min max sum abs sorted reversed int str bool list tuple dict set frozenset
isinstance ord repr any all divmod Exception ValueError KeyError IndexError LookupError ZeroDivisionError""".split()
METHODS = """append clear copy count endswith extend find get index insert isalnum isalpha isdigit islower isspace
isupper items join keys ljust lower lstrip partition pop remove replace reverse rfind rjust rpartition rsplit rstrip
setdefault split splitlines startswith strip update upper values zfill bit_length""".split()
WORDS = """type typing typing_extensions enum Enum IntEnum StrEnum Flag IntFlag Generic Protocol ABC ABCMeta namedtuple
NamedTuple TypedDict TYPE_CHECKING abstractmethod""".split()


KEYWORDS = [("sorted", "key"), ("sorted", "reverse"), ("min", "key"), ("min", "default"), ("max", "key"),
            ("max", "default"), ("sum", "start"), ("enumerate", "start"), ("zip", "strict")]
WALKED = "range enumerate zip reversed items keys values".split()
WALKERS = "list tuple dict sorted sum any all enumerate zip min max join".split()
CHANGES = "append clear extend insert pop remove reverse setdefault update".split()


def package_files():
    return sorted(PACKAGE.glob("*.py"))


def package_trees():
    return [ast.parse(path.read_text(encoding="utf-8"), filename=path.name) for path in package_files()]


def is_plain(value):
    """Whether the value of a name of a file's top is written out, with nothing in it that is worked out."""
    if isinstance(value, ast.UnaryOp):
        return isinstance(value.op, ast.USub) and isinstance(value.operand, ast.Constant)
    if isinstance(value, (ast.List, ast.Tuple)):
        return all([is_plain(part) for part in value.elts])
    if isinstance(value, ast.Dict):
        return all([is_plain(part) for part in value.keys + value.values])
    return isinstance(value, ast.Constant)


def bound_names(tree):
    """All names that the file binds, at its top or within."""
    names = [node.id for node in ast.walk(tree) if isinstance(node, ast.Name) and isinstance(node.ctx, ast.Store)]
    names += [node.arg for node in ast.walk(tree) if isinstance(node, ast.arg)]
    names += [node.name for node in ast.walk(tree) if isinstance(node, (ast.FunctionDef, ast.ClassDef))]
    names += [alias.name for node in ast.walk(tree) if isinstance(node, ast.ImportFrom) for alias in node.names]
    return names


def called_name(node):
    """The name of the function or method that is called, or None if the node is no call."""
    if not isinstance(node, ast.Call):
        return None
    return node.func.id if isinstance(node.func, ast.Name) else node.func.attr


def nodes_with_parents(tree):
    return [(node, parent) for parent in ast.walk(tree) for node in ast.iter_child_nodes(parent)]


def top_names(tree):
    names = [node.name for node in tree.body if isinstance(node, (ast.FunctionDef, ast.ClassDef))]
    return names + [node.targets[0].id for node in tree.body if isinstance(node, ast.Assign)]


def imports_of(tree):
    return [node for node in tree.body if isinstance(node, ast.ImportFrom)]


def changed_names(nodes):
    """The names whose values are changed within the nodes, by an index or a method."""
    names = []
    for node in [part for body in nodes for part in ast.walk(body)]:
        if isinstance(node, ast.Subscript) and isinstance(node.ctx, ast.Store):
            names.append(ast.unparse(node.value))
        if called_name(node) in CHANGES and isinstance(node.func, ast.Attribute):
            names.append(ast.unparse(node.func.value))
    return names


class FormTest(unittest.TestCase):
    def test_nothing_but_python_files(self):
        others = [path.name for path in PACKAGE.iterdir() if path.name != "__pycache__" and path.suffix != ".py"]
        self.assertEqual(others, [])
        self.assertIn(PACKAGE / "__init__.py", package_files())

    def test_rows(self):
        for path in package_files():
            text = path.read_text(encoding="utf-8")
            self.assertLessEqual(len(text.splitlines()), 400, path)
            self.assertEqual([row for row in text.splitlines() if len(row) > 120], [], path)
            self.assertEqual([sign for sign in text if sign != "\n" and not " " <= sign <= "~"], [], path)
            self.assertEqual([word for word in WORDS if re.search(rf"\b{word}\b", text)], [], path)
            self.assertIsNone(re.search("dataclass|overload|contextmanager", text), path)

    def test_statements_and_expressions(self):
        for tree in package_trees():
            for node in ast.walk(tree):
                if isinstance(node, ast.stmt):
                    self.assertIsInstance(node, STATEMENTS)
                if isinstance(node, ast.expr):
                    self.assertIsInstance(node, EXPRESSIONS)
                if isinstance(node, (ast.For, ast.While)):
                    self.assertEqual(node.orelse, [])
                if isinstance(node, ast.Assign):
                    self.assertEqual(len(node.targets), 1)
                    self.assertNotIsInstance(node.targets[0], (ast.Tuple, ast.List))
                if isinstance(node, ast.ListComp):
                    self.assertEqual(len(node.generators), 1)
                    self.assertLessEqual(len(node.generators[0].ifs), 1)
                if isinstance(node, ast.Constant):
                    self.assertIn(type(node.value), (int, str, bool, type(None)))
                if isinstance(node, ast.BinOp):
                    self.assertNotIsInstance(node.op, (ast.Div, ast.MatMult))

    def test_imports(self):
        for tree in package_trees():
            for node in ast.walk(tree):
                if isinstance(node, ast.ImportFrom):
                    self.assertIn(node, tree.body)
                    self.assertEqual(node.level, 0)
                    self.assertTrue(node.module.startswith("joinedjournals."))
                    self.assertEqual([alias.asname for alias in node.names if alias.asname], [])

    def test_tops_hold_plain_values(self):
        for tree in package_trees():
            self.assertIsNotNone(ast.get_docstring(tree))
            for node in tree.body[1:]:
                self.assertIsInstance(node, (ast.ImportFrom, ast.FunctionDef, ast.ClassDef, ast.Assign))
                if isinstance(node, ast.Assign):
                    self.assertTrue(is_plain(node.value))

    def test_functions(self):
        for tree in package_trees():
            for node in ast.walk(tree):
                if isinstance(node, ast.FunctionDef):
                    self.assertLessEqual(node.end_lineno - node.lineno + 1, 40, node.name)
                    self.assertEqual(node.decorator_list, [])
                    self.assertIsNone(node.args.vararg)
                    self.assertIsNone(node.args.kwarg)
                    self.assertEqual(node.args.kwonlyargs, [])
                if isinstance(node, ast.Expr) and node is not tree.body[0]:
                    self.assertIsInstance(node.value, ast.Call)

    def test_names(self):
        for tree in package_trees():
            bound = bound_names(tree)
            for name in bound:
                self.assertTrue(name == "__init__" or re.fullmatch("[A-Za-z][A-Za-z0-9_]*", name), name)
                self.assertTrue(name == "__init__" or not hasattr(builtins, name), name)
            for node in ast.walk(tree):
                if isinstance(node, ast.Name) and isinstance(node.ctx, ast.Load):
                    self.assertIn(node.id, bound + BUILT_IN)
                if isinstance(node, ast.Call) and isinstance(node.func, ast.Attribute):
                    self.assertIn(node.func.attr, METHODS)

    def test_imports_are_from_the_file_that_defines_the_name(self):
        trees = {f"joinedjournals.{path.stem}": tree for path, tree in zip(package_files(), package_trees())}
        for tree in trees.values():
            for node in imports_of(tree):
                for alias in node.names:
                    self.assertIn(alias.name, top_names(trees[node.module]))

    def test_no_two_files_draw_from_one_another(self):
        left = {f"joinedjournals.{path.stem}": [node.module for node in imports_of(tree)]
                for path, tree in zip(package_files(), package_trees())}
        while left:
            free = [name for name, drawn in left.items() if not any([other in left for other in drawn])]
            self.assertNotEqual(free, [], left)
            left = {name: drawn for name, drawn in left.items() if name not in free}

    def test_each_name_once_at_the_top(self):
        for tree in package_trees():
            names = top_names(tree) + [alias.name for node in imports_of(tree) for alias in node.names]
            self.assertEqual(len(names), len(set(names)))
            for function in [node for node in ast.walk(tree) if isinstance(node, ast.FunctionDef)]:
                inner = [node.arg for node in ast.walk(function) if isinstance(node, ast.arg)]
                inner += [node.id for node in ast.walk(function)
                          if isinstance(node, ast.Name) and isinstance(node.ctx, ast.Store)]
                self.assertEqual([name for name in inner if name in names], [], function.name)

    def test_is_and_keywords(self):
        for tree in package_trees():
            for node in ast.walk(tree):
                if isinstance(node, ast.Compare) and isinstance(node.ops[0], (ast.Is, ast.IsNot)):
                    self.assertIsInstance(node.comparators[0], ast.Constant)
                    self.assertIn(node.comparators[0].value, (None, True, False))
                if isinstance(node, ast.Call):
                    for keyword in node.keywords:
                        self.assertIn((called_name(node), keyword.arg), KEYWORDS)

    def test_walked_at_once(self):
        for tree in package_trees():
            for node, parent in nodes_with_parents(tree):
                if called_name(node) in WALKED:
                    walked = isinstance(parent, (ast.For, ast.comprehension)) and parent.iter is node
                    self.assertTrue(walked or called_name(parent) in WALKERS, ast.unparse(parent))

    def test_sets_stand_on_the_spot(self):
        for tree in package_trees():
            for node, parent in nodes_with_parents(tree):
                if called_name(node) in ["set", "frozenset"]:
                    self.assertTrue(isinstance(parent, (ast.Compare, ast.BinOp)) or called_name(parent) in ["sorted", "len"],
                                    ast.unparse(parent))

    def test_loops_do_not_change_what_they_walk(self):
        for tree in package_trees():
            for node in ast.walk(tree):
                if isinstance(node, ast.For):
                    walked = [ast.unparse(part) for part in ast.walk(node.iter) if isinstance(part, (ast.Name, ast.Attribute))]
                    self.assertEqual([name for name in changed_names(node.body) if name in walked], [])


if __name__ == "__main__":
    unittest.main()
