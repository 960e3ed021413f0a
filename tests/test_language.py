"""Holds the package's files to the rules of LANGUAGE.md that can be read off a file's text and tree."""

import ast
import builtins
import pathlib
import re
import unittest

PACKAGE = pathlib.Path(__file__).resolve().parent.parent / "guardround"
FILES = sorted(path for path in PACKAGE.rglob("*.py"))

NODES = """Module Expr Constant ImportFrom alias FunctionDef ClassDef arguments arg Lambda Assign AugAssign If While For
Return Break Continue Pass Raise Try ExceptHandler Call Attribute Subscript Slice Name Load Store List Tuple Dict Set
BinOp UnaryOp BoolOp Compare IfExp ListComp comprehension JoinedStr FormattedValue keyword Add Sub Mult FloorDiv Mod Pow
BitAnd BitOr BitXor LShift RShift Invert USub UAdd Not And Or Eq NotEq Lt LtE Gt GtE Is IsNot In NotIn""".split()
BUILT_IN = """len range enumerate zip min max sum abs sorted reversed int str bool list tuple dict set frozenset isinstance
ord repr any all divmod ValueError KeyError IndexError LookupError ZeroDivisionError ArithmeticError
OverflowError RuntimeError NotImplementedError StopIteration""".split()
METHODS = """append clear copy count endswith extend find get index insert isalnum isalpha isdigit islower isspace isupper
items join keys ljust lower lstrip partition pop remove replace reverse rfind rjust rpartition rsplit rstrip setdefault
split splitlines startswith strip update upper values zfill bit_length""".split()
SPECIAL = ["__init__", "__eq__", "__repr__", "__str__", "__len__"]
WORDS = """type typing typing_extensions enum Enum IntEnum StrEnum Flag IntFlag Generic Protocol ABC ABCMeta namedtuple
NamedTuple TypedDict TYPE_CHECKING abstractmethod""".split()
UNUSED = """register mro elements open input version_info with_traceback add_note attrgetter breakpoint builtins compile
copyright credits delattr dir eval exec exit gc getattr globals hasattr help id importlib license locals methodcaller os
quit setattr super vars sys""".split()
KEYWORDS = {"sorted": ["key", "reverse"], "min": ["key", "default"], "max": ["key", "default"], "sum": ["start"],
            "enumerate": ["start"], "zip": ["strict"]}
CHANGES = ["append", "clear", "extend", "insert", "pop", "remove", "reverse", "setdefault", "update"]
WALKED = ["zip", "enumerate", "reversed", "range"]
WALKERS = ["list", "tuple", "dict", "sorted", "sum", "any", "all", "enumerate", "zip", "min", "max"]


def tree_of(path):
    return ast.parse(path.read_text(encoding="utf-8"))


def top_names(tree):
    names = []
    for node in tree.body:
        if isinstance(node, (ast.FunctionDef, ast.ClassDef)):
            names.append(node.name)
        elif isinstance(node, ast.Assign):
            names.append(node.targets[0].id)
        elif isinstance(node, ast.ImportFrom):
            names.extend(name.asname or name.name for name in node.names)
    return names


def called(node):
    """The name of what is called, where it is a plain one."""
    return node.func.id if isinstance(node, ast.Call) and isinstance(node.func, ast.Name) else None


def own_methods():
    return [item.name for path in FILES for node in tree_of(path).body if isinstance(node, ast.ClassDef)
            for item in node.body if isinstance(item, ast.FunctionDef)]


class TheFiles(unittest.TestCase):
    def each(self):
        return [(path, tree_of(path)) for path in FILES]

    def nodes(self, kinds):
        return [(path, node) for path, tree in self.each() for node in ast.walk(tree) if isinstance(node, kinds)]

    def test_folder(self):
        others = [path for path in PACKAGE.rglob("*") if path not in FILES and "__pycache__" not in path.parts]
        self.assertEqual(others, [])
        self.assertIn(PACKAGE / "__init__.py", FILES)
        for path in FILES:
            name = path.stem
            self.assertTrue(re.fullmatch("[a-z][a-z0-9_]*", name) or name in ("__init__", "__main__"))
            self.assertNotIn(name, dir(builtins))
            self.assertFalse(name.startswith("test"))

    def test_signs_words_and_sizes(self):
        for path, tree in self.each():
            text = path.read_text(encoding="utf-8")
            self.assertIsNone(re.search(r"[^ -~\n]", text))
            self.assertEqual([word for word in re.findall(r"\w+", text) if word in WORDS], [])
            self.assertIsNone(re.search("dataclass|overload|contextmanager", text))
            self.assertLessEqual(len(text.splitlines()), 400)
            self.assertLessEqual(max(len(line) for line in text.splitlines()), 120)
            for node in ast.walk(tree):
                if isinstance(node, ast.FunctionDef):
                    self.assertLessEqual(node.end_lineno - node.lineno + 1, 40, node.name)

    def test_forms(self):
        for path, node in self.nodes(ast.AST):
            self.assertIn(type(node).__name__, NODES, (path.name, getattr(node, "lineno", None)))

    def test_top_of_a_file(self):
        for path, tree in self.each():
            self.assertIsNotNone(ast.get_docstring(tree))
            for node in tree.body[1:]:
                self.assertIsInstance(node, (ast.ImportFrom, ast.FunctionDef, ast.ClassDef, ast.Assign))
            names = top_names(tree)
            self.assertEqual(len(names), len(set(names)))

    def test_imports(self):
        for path, node in self.nodes(ast.ImportFrom):
            self.assertEqual(node.level, 0)
            self.assertTrue(node.module.startswith("guardround."))
            source = PACKAGE / (node.module.partition(".")[2] + ".py")
            defined = [item for item in tree_of(source).body if not isinstance(item, ast.ImportFrom)]
            for name in node.names:
                self.assertIn(name.name, top_names(ast.Module(defined, [])))

    def test_imports_run_in_no_ring(self):
        drawn = {path.stem: [node.module.partition(".")[2] for node in tree_of(path).body
                             if isinstance(node, ast.ImportFrom)] for path in FILES}
        self.assertEqual(drawn["__init__"], [])
        while drawn:
            ready = [name for name, sources in drawn.items() if not any(source in drawn for source in sources)]
            self.assertTrue(ready, drawn)
            drawn = {name: sources for name, sources in drawn.items() if name not in ready}

    def test_functions_and_classes(self):
        for path, node in self.nodes((ast.FunctionDef, ast.ClassDef)):
            self.assertEqual(node.decorator_list, [])
            if isinstance(node, ast.ClassDef):
                self.assertLessEqual(len(node.bases), 1)
                self.assertEqual(node.keywords, [])
                for item in node.body:
                    self.assertIsInstance(item, (ast.FunctionDef, ast.Pass))
            else:
                self.assertIsNone(node.returns)
        for path, node in self.nodes(ast.arguments):
            self.assertEqual((node.vararg, node.kwarg, node.kwonlyargs, node.posonlyargs), (None, None, [], []))
            self.assertTrue(all(argument.annotation is None for argument in node.args))

    def test_names(self):
        for path, tree in self.each():
            bound = [node.arg for node in ast.walk(tree) if isinstance(node, ast.arg)]
            bound += [node.id for node in ast.walk(tree) if isinstance(node, ast.Name)
                      and isinstance(node.ctx, ast.Store)]
            taken = [name.asname or name.name for node in tree.body if isinstance(node, ast.ImportFrom)
                     for name in node.names] + [node.name for node in tree.body if isinstance(node, ast.ClassDef)]
            for name in bound + top_names(tree):
                self.assertTrue(re.fullmatch("[A-Za-z][A-Za-z0-9_]*", name), name)
                self.assertNotIn(name, dir(builtins))
                self.assertNotIn(name, UNUSED)
            self.assertEqual([name for name in bound if name in taken], [])
            known = bound + top_names(tree) + BUILT_IN + [
                node.name for node in ast.walk(tree) if isinstance(node, ast.FunctionDef)]
            used = [node.id for node in ast.walk(tree) if isinstance(node, ast.Name)]
            self.assertEqual([name for name in used if name not in known], [])

    def test_methods_and_values(self):
        methods = own_methods()
        for path, node in self.nodes(ast.Attribute):
            self.assertTrue(not node.attr.startswith("_") or node.attr == "__init__", node.attr)
            self.assertNotIn(node.attr, UNUSED + ["format", "format_map", "args", "encode", "sort"])
        for path, node in self.nodes(ast.Call):
            if isinstance(node.func, ast.Attribute):
                self.assertIn(node.func.attr, METHODS + methods)
        self.assertEqual([name for name in methods if name.startswith("_") and name not in SPECIAL], [])

    def test_expressions(self):
        for path, node in self.nodes(ast.Compare):
            for sign, right in zip(node.ops, node.comparators):
                if isinstance(sign, (ast.Is, ast.IsNot)):
                    self.assertIsInstance(right, ast.Constant)
                    self.assertIn(type(right.value), (bool, type(None)))
        for path, node in self.nodes(ast.ListComp):
            self.assertEqual(len(node.generators), 1)
            self.assertLessEqual(len(node.generators[0].ifs), 1)
        for path, node in self.nodes(ast.Constant):
            self.assertIn(type(node.value), (int, str, bool, type(None)))
            self.assertNotIn("%", str(node.value))
        for path, node in self.nodes(ast.FormattedValue):
            self.assertIsInstance(node.value, ast.Name)
            self.assertIsNone(node.format_spec)
        for path, node in self.nodes(ast.Assign):
            self.assertEqual(len(node.targets), 1)
        for path, node in self.nodes((ast.For, ast.While, ast.Try)):
            self.assertEqual([] if isinstance(node, ast.Try) else node.orelse, [])
            self.assertEqual(getattr(node, "finalbody", []), [])
        for path, node in self.nodes(ast.BinOp):
            if isinstance(node.op, ast.Pow):
                self.assertIsInstance(node.right, ast.Constant)

    def test_calls_of_pythons_own(self):
        for path, tree in self.each():
            walked = [node.iter for node in ast.walk(tree) if isinstance(node, (ast.For, ast.comprehension))]
            for node in ast.walk(tree):
                if isinstance(node, ast.Call) and isinstance(node.func, ast.Name) and node.func.id in BUILT_IN:
                    given = [keyword.arg for keyword in node.keywords]
                    self.assertEqual([key for key in given if key not in KEYWORDS.get(node.func.id, [])], [])
                    if node.func.id in WALKERS:
                        walked.extend(node.args)
            for node in ast.walk(tree):
                if isinstance(node, ast.Call) and isinstance(node.func, ast.Name) and node.func.id in WALKED:
                    self.assertIn(node, walked, ast.unparse(node))

    def test_sets_are_not_kept_and_not_walked(self):
        for path, tree in self.each():
            for above in ast.walk(tree):
                for node in ast.iter_child_nodes(above):
                    if isinstance(node, ast.Set) or (isinstance(node, ast.Call) and called(node) in ("set", "frozenset")):
                        beside = isinstance(above, ast.Compare)
                        within = isinstance(above, ast.Call) and called(above) in ("sorted", "len")
                        self.assertTrue(beside or (within and above.keywords == []), ast.unparse(above))

    def test_no_loop_changes_what_it_walks(self):
        for path, loop in self.nodes(ast.For):
            walked = [node.id for node in ast.walk(loop.iter) if isinstance(node, ast.Name)]
            for node in [inner for statement in loop.body for inner in ast.walk(statement)]:
                changed = None
                if isinstance(node, ast.Call) and isinstance(node.func, ast.Attribute) and node.func.attr in CHANGES:
                    changed = node.func.value
                elif isinstance(node, ast.Subscript) and isinstance(node.ctx, ast.Store):
                    changed = node.value
                if isinstance(changed, ast.Name):
                    direct = isinstance(loop.iter, ast.Name) or called(loop.iter) in WALKED
                    self.assertFalse(direct and changed.id in walked, ast.unparse(loop))

    def test_errors_are_made_on_the_spot_and_taken_by_name(self):
        refusals = top_names(tree_of(PACKAGE / "errors.py"))
        for path, node in self.nodes(ast.Raise):
            self.assertIn(called(node.exc), refusals)
            self.assertIsNone(node.cause)
        for path, node in self.nodes(ast.ExceptHandler):
            self.assertIn(node.type.id, refusals + ["KeyError", "ZeroDivisionError", "StopIteration"])

    def test_methods_with_two_underscores(self):
        for path, node in self.nodes(ast.FunctionDef):
            if node.name == "__init__":
                self.assertEqual([inner for inner in ast.walk(node) if isinstance(inner, ast.Return)], [])
            else:
                self.assertFalse(node.name.startswith("_"))

    def test_no_name_is_a_method_here_and_a_value_there(self):
        values = [node.attr for path, node in self.nodes(ast.Attribute) if isinstance(node.ctx, ast.Store)]
        self.assertEqual([name for name in values if name in own_methods()], [])
        python_own = [name for kind in (str, int, list, dict, set, bytes, tuple) for name in dir(kind)]
        self.assertEqual([name for name in values if name in python_own], [])
        self.assertEqual([name for name in own_methods() if name in python_own and name != "__init__"], [])

    def test_lists_of_a_files_top_are_only_read(self):
        for path, tree in self.each():
            for node in tree.body:
                if isinstance(node, ast.Assign):
                    self.assertNotIsInstance(node.value, (ast.List, ast.Dict), path.name)

    def test_lambdas(self):
        lines = [(path, node.lineno) for path, node in self.nodes(ast.Lambda)]
        self.assertEqual(len(lines), len(set(lines)))


if __name__ == "__main__":
    unittest.main()
