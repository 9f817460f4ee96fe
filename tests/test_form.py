"""The package's own files, held to what of ../shared/LANGUAGE.md can be told by looking at them one by one."""

import ast
import builtins
import pathlib
import re
import unittest

PACKAGE = pathlib.Path(__file__).resolve().parent.parent / "drawnoils"

# L17: these stand nowhere, in remarks and texts neither.
BARRED_WORDS = """type typing typing_extensions enum Enum IntEnum StrEnum Flag IntFlag Generic Protocol ABC ABCMeta
    namedtuple NamedTuple TypedDict TYPE_CHECKING abstractmethod""".split()
BARRED_NAMES = """register mro elements open input version_info with_traceback add_note attrgetter builtins gc
    importlib methodcaller os sys""".split()

# L6 and L7, and no more of them than the package has a use for.
NODES = """Module ClassDef FunctionDef arguments arg Expr Constant Assign Name Load Store Attribute Subscript Slice
    Return If IfExp While For Break Continue Pass Call List Tuple Dict ListComp comprehension BinOp Add Sub Mult
    FloorDiv Mod UnaryOp USub Not BoolOp And Or Compare Eq NotEq Lt LtE Gt GtE Is IsNot In NotIn""".split()

# L8 and L25.
BUILTINS = """len range enumerate zip min max sum abs sorted reversed int str bool list tuple dict isinstance repr any
    all divmod""".split()
METHODS = "append count extend get index insert join pop remove reverse".split()


def trees():
    return [(path, ast.parse(path.read_text(encoding="ascii"))) for path in sorted(PACKAGE.glob("*.py"))]


def found(tree, kind):
    return [node for node in ast.walk(tree) if isinstance(node, kind)]


class Files(unittest.TestCase):
    def test_the_files_that_are_there(self):
        names = sorted(path.name for path in PACKAGE.iterdir() if path.name != "__pycache__")
        self.assertEqual(names, ["__init__.py", "orders.py"])

    def test_signs_words_and_sizes(self):
        for path in PACKAGE.glob("*.py"):
            text = path.read_bytes().decode("ascii")
            self.assertRegex(text, r"\A[\n -~]*\n\Z")
            self.assertFalse([word for word in re.findall(r"\w+", text) if word in BARRED_WORDS])
            self.assertLessEqual(len(text.splitlines()), 399)
            self.assertLessEqual(max(len(line) for line in text.splitlines()), 120)

    def test_functions_are_of_40_lines_at_most(self):
        for path, tree in trees():
            for node in found(tree, ast.FunctionDef):
                self.assertLessEqual(node.end_lineno - node.lineno + 1, 40, node.name)


class Language(unittest.TestCase):
    def test_only_these_statements_and_expressions(self):
        for path, tree in trees():
            self.assertEqual({type(node).__name__ for node in ast.walk(tree)} - set(NODES), set())

    def test_values_are_whole_numbers_texts_true_false_and_none(self):
        for path, tree in trees():
            kinds = {type(node.value) for node in found(tree, ast.Constant)}
            self.assertLessEqual(kinds, {int, str, bool, type(None)})

    def test_plain_functions_and_classes(self):
        for path, tree in trees():
            for node in found(tree, ast.FunctionDef):
                self.assertFalse(node.decorator_list or node.args.vararg or node.args.kwarg or node.args.kwonlyargs)
            for node in found(tree, ast.ClassDef):
                self.assertFalse(node.decorator_list or node.keywords)

    def test_an_expression_by_itself_is_a_call(self):
        for path, tree in trees():
            remarks = found(tree, ast.Expr)[1:]
            self.assertTrue(ast.get_docstring(tree))
            self.assertTrue(all(isinstance(node.value, ast.Call) for node in remarks))

    def test_one_target_and_one_for(self):
        for path, tree in trees():
            self.assertTrue(all(len(node.targets) == 1 for node in found(tree, ast.Assign)))
            self.assertFalse([node for node in found(tree, (ast.While, ast.For)) if node.orelse])
            for node in found(tree, ast.ListComp):
                self.assertEqual(len(node.generators), 1)
                self.assertLessEqual(len(node.generators[0].ifs), 1)

    def test_names(self):
        own = dir(builtins)
        for path, tree in trees():
            bound = [node.id for node in found(tree, ast.Name) if isinstance(node.ctx, ast.Store)]
            bound += [node.arg for node in found(tree, ast.arg)]
            bound += [node.name for node in found(tree, (ast.FunctionDef, ast.ClassDef)) if node.name != "__init__"]
            self.assertFalse([name for name in bound if name in own + BARRED_NAMES or name.startswith("_")])
            used = [node.id for node in found(tree, ast.Name) if isinstance(node.ctx, ast.Load)]
            self.assertFalse([name for name in used if name in own and name not in BUILTINS])

    def test_methods_are_own_ones_or_those_listed(self):
        for path, tree in trees():
            own = [node.name for each in found(tree, ast.ClassDef) for node in each.body
                   if isinstance(node, ast.FunctionDef)]
            called = [node.func.attr for node in found(tree, ast.Call) if isinstance(node.func, ast.Attribute)]
            self.assertFalse([name for name in called if name not in own + METHODS])

    def test_the_interface_stands_in_its_file(self):
        tops = [(path.name, node.name, [arg.arg for arg in node.args.args])
                for path, tree in trees() for node in tree.body
                if isinstance(node, ast.FunctionDef) and node.name == "answers"]
        self.assertEqual(tops, [("orders.py", "answers", ["calls"])])

    def test_names_of_a_files_top_are_bound_once(self):
        for path, tree in trees():
            bound = [node.targets[0].id for node in tree.body if isinstance(node, ast.Assign)]
            bound += [node.name for node in tree.body if isinstance(node, (ast.FunctionDef, ast.ClassDef))]
            self.assertEqual(len(bound), len(set(bound)))


if __name__ == "__main__":
    unittest.main()
