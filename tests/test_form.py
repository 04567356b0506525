"""The form of the package's files: what can be seen by machine of the rules that they keep to."""

import ast
import builtins
import pathlib
import re
import unittest

ROOT = pathlib.Path(__file__).resolve().parent.parent
PACKAGE = ROOT / "leastchange"

STATEMENTS = (
    ast.Assign, ast.AugAssign, ast.If, ast.While, ast.For, ast.Return, ast.Break, ast.Continue, ast.Pass,
    ast.Raise, ast.Try, ast.Expr, ast.FunctionDef, ast.ClassDef, ast.ImportFrom,
)
OUTSIDE = (
    ast.Set, ast.SetComp, ast.DictComp, ast.GeneratorExp, ast.NamedExpr, ast.Starred, ast.Div, ast.Await,
    ast.MatMult, ast.AnnAssign,
)
BUILTIN_NAMES = (
    "len", "range", "enumerate", "zip", "min", "max", "sum", "abs", "sorted", "reversed", "int", "str",
    "bool", "list", "tuple", "dict", "set", "isinstance", "ord", "repr", "any", "all", "divmod",
    "Exception", "ValueError", "KeyError", "IndexError", "LookupError", "ZeroDivisionError",
)
WORDS_THAT_STAND_NOWHERE = (
    "type", "typing", "typing_extensions", "enum", "Enum", "IntEnum", "StrEnum", "Flag", "IntFlag",
    "Generic", "Protocol", "ABC", "ABCMeta", "namedtuple", "NamedTuple", "TypedDict", "TYPE_CHECKING",
    "abstractmethod",
)
METHODS = (
    "append clear copy count endswith extend find get index insert isalnum isalpha isdigit islower isspace "
    "isupper items join keys ljust lower lstrip partition pop remove replace reverse rfind rjust rpartition "
    "rsplit rstrip setdefault split splitlines startswith strip update upper values zfill bit_length"
).split()


def package_files():
    return sorted(path for path in PACKAGE.rglob("*") if "__pycache__" not in path.parts)


def texts():
    return [(path.name, path.read_text(encoding="utf-8")) for path in package_files()]


def trees():
    return [(name, ast.parse(text)) for name, text in texts()]


def nodes(kind):
    return [(name, node) for name, tree in trees() for node in ast.walk(tree) if isinstance(node, kind)]


class Files(unittest.TestCase):
    def test_only_plain_files_of_the_language(self):
        for path in package_files():
            self.assertRegex(path.relative_to(PACKAGE).as_posix(), r"^(__init__|__main__|[a-z][a-z0-9_]*)\.py$")
        self.assertIn(PACKAGE / "__init__.py", package_files())
        self.assertIn(PACKAGE / "facts.py", package_files())

    def test_signs_and_sizes(self):
        for name, text in texts():
            self.assertRegex(text, r"\A[ -~\n]*\Z", name)
            self.assertLessEqual(len(text.splitlines()), 400, name)
            for line in text.splitlines():
                self.assertLessEqual(len(line), 120, name)

    def test_words_that_stand_nowhere(self):
        for name, text in texts():
            for word in WORDS_THAT_STAND_NOWHERE:
                self.assertIsNone(re.search(rf"\b{word}\b", text), (name, word))

    def test_short_functions(self):
        for name, node in nodes(ast.FunctionDef):
            self.assertLessEqual(node.end_lineno - node.lineno + 1, 40, (name, node.name))


class Language(unittest.TestCase):
    def test_statements(self):
        for name, node in nodes(ast.stmt):
            self.assertIsInstance(node, STATEMENTS, (name, node.lineno))

    def test_what_stands_by_itself_is_a_call_or_the_docstring_of_a_file(self):
        for name, tree in trees():
            docstring = tree.body[0]
            self.assertIsNotNone(ast.get_docstring(tree), name)
            for node in ast.walk(tree):
                if isinstance(node, ast.Expr) and node is not docstring:
                    self.assertIsInstance(node.value, ast.Call, (name, node.lineno))

    def test_nothing_from_outside_the_rules(self):
        for name, node in nodes(OUTSIDE):
            self.fail((name, node.lineno, node))

    def test_loops_have_no_else_and_assignments_one_target(self):
        for name, node in nodes((ast.For, ast.While)):
            self.assertEqual(node.orelse, [], (name, node.lineno))
        for name, node in nodes(ast.Assign):
            self.assertEqual(len(node.targets), 1, (name, node.lineno))

    def test_no_power_but_by_a_written_number(self):
        for name, node in nodes(ast.BinOp):
            if isinstance(node.op, ast.Pow):
                self.assertIsInstance(node.right, ast.Constant, (name, node.lineno))

    def test_no_values_but_whole_numbers_and_texts(self):
        for name, node in nodes(ast.Constant):
            self.assertIsInstance(node.value, (int, str, bool, type(None)), (name, node.lineno))

    def test_functions_are_plain(self):
        for name, node in nodes(ast.FunctionDef):
            given = node.args
            self.assertEqual(
                (node.decorator_list, node.returns, given.vararg, given.kwarg, given.kwonlyargs, given.posonlyargs),
                ([], None, None, None, [], []), (name, node.name))

    def test_classes_hold_methods_alone(self):
        for name, node in nodes(ast.ClassDef):
            self.assertEqual((node.decorator_list, node.keywords), ([], []), (name, node.name))
            for statement in node.body:
                self.assertIsInstance(statement, ast.FunctionDef, (name, node.name))

    def test_imports_are_of_the_package_alone(self):
        for name, node in nodes(ast.ImportFrom):
            self.assertEqual((node.level, node.module.split(".")[0]), (0, "leastchange"), name)
            for drawn in node.names:
                self.assertNotEqual(drawn.name, "*")
                self.assertIsNone(drawn.asname)

    def test_names_are_drawn_from_the_file_that_defines_them(self):
        defined = {
            "leastchange." + name[:-3]: {
                node.name for node in tree.body if isinstance(node, (ast.FunctionDef, ast.ClassDef))}
            for name, tree in trees()}
        for name, node in nodes(ast.ImportFrom):
            for drawn in node.names:
                self.assertIn(drawn.name, defined[node.module], (name, node.lineno))

    def test_no_two_files_draw_from_one_another(self):
        drawn = {name[:-3]: set() for name, tree in trees()}
        for name, node in nodes(ast.ImportFrom):
            drawn[name[:-3]].add(node.module.split(".")[1])
        while drawn:
            last = [name for name in drawn if not drawn[name] & set(drawn)]
            self.assertNotEqual(last, [], drawn)
            for name in last:
                drawn.pop(name)

    def test_no_parameter_or_local_is_called_like_a_class_or_an_import(self):
        for name, tree in trees():
            taken = {node.name for node in tree.body if isinstance(node, ast.ClassDef)}
            taken.update(drawn.name for node in tree.body if isinstance(node, ast.ImportFrom) for drawn in node.names)
            for node in ast.walk(tree):
                if isinstance(node, ast.arg):
                    self.assertNotIn(node.arg, taken, name)
                elif isinstance(node, ast.Name) and isinstance(node.ctx, ast.Store):
                    self.assertNotIn(node.id, taken, name)

    def test_is_stands_beside_none_true_and_false_alone(self):
        for name, node in nodes(ast.Compare):
            for sign, right in zip(node.ops, node.comparators):
                if isinstance(sign, (ast.Is, ast.IsNot)):
                    self.assertIsInstance(right, ast.Constant, (name, node.lineno))
                    self.assertIn(right.value, (None, True, False), (name, node.lineno))

    def test_every_name_of_a_files_top_is_bound_once(self):
        for name, tree in trees():
            bound = [node.targets[0].id for node in tree.body if isinstance(node, ast.Assign)]
            bound.extend(node.name for node in tree.body if isinstance(node, (ast.FunctionDef, ast.ClassDef)))
            self.assertEqual(len(bound), len(set(bound)), name)

    def test_names(self):
        for name, tree in trees():
            bound = set()
            for node in ast.walk(tree):
                if isinstance(node, (ast.FunctionDef, ast.ClassDef)):
                    bound.add(node.name)
                elif isinstance(node, ast.arg):
                    bound.add(node.arg)
                elif isinstance(node, ast.Name) and isinstance(node.ctx, ast.Store):
                    bound.add(node.id)
            for word in bound - {"__init__"}:
                self.assertRegex(word, r"^[A-Za-z][A-Za-z0-9_]*$", name)
                self.assertNotIn(word, dir(builtins), name)
            for node in ast.walk(tree):
                if isinstance(node, ast.Name) and node.id in dir(builtins):
                    self.assertIn(node.id, BUILTIN_NAMES, (name, node.lineno))

    def test_methods_are_own_ones_or_listed(self):
        own = {node.name for name, node in nodes(ast.FunctionDef)}
        for name, node in nodes(ast.Call):
            if isinstance(node.func, ast.Attribute):
                self.assertIn(node.func.attr, own | set(METHODS), (name, node.lineno))

    def test_no_name_is_a_method_and_a_value(self):
        methods = {
            part.name for name, node in nodes(ast.ClassDef) for part in node.body
            if isinstance(part, ast.FunctionDef)}
        values = {
            node.attr for name, node in nodes(ast.Attribute) if isinstance(node.ctx, ast.Store)}
        self.assertEqual(methods & values, set())


if __name__ == "__main__":
    unittest.main()
