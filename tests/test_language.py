"""The package keeps to the small part of Python that it is written in (what can be seen by a walk of its files)."""

import ast
import builtins
import pathlib
import re
import unittest

PACKAGE = pathlib.Path(__file__).resolve().parent.parent / "pairchecks"
FILES = sorted(path for path in PACKAGE.rglob("*") if "__pycache__" not in path.parts)

STATEMENTS = (
    ast.FunctionDef, ast.ClassDef, ast.ImportFrom, ast.Assign, ast.AugAssign, ast.If, ast.While, ast.For, ast.Return,
    ast.Break, ast.Continue, ast.Pass, ast.Raise, ast.Try, ast.Expr)
EXPRESSIONS = (
    ast.Constant, ast.Name, ast.List, ast.Tuple, ast.Dict, ast.BinOp, ast.UnaryOp, ast.BoolOp, ast.Compare, ast.IfExp,
    ast.Call, ast.Attribute, ast.Subscript, ast.Slice, ast.ListComp, ast.JoinedStr, ast.FormattedValue, ast.Lambda)
OWN_NAMES_OF_PYTHON = set(
    "len range enumerate zip min max sum abs sorted reversed int str bool list tuple dict set frozenset isinstance ord "
    "repr any all divmod Exception ValueError TypeError KeyError IndexError LookupError ZeroDivisionError "
    "ArithmeticError OverflowError RuntimeError NotImplementedError AttributeError StopIteration".split())
METHODS_OF_PYTHON = set(
    "append clear copy count endswith extend find get index insert isalnum isalpha isdigit islower isspace isupper "
    "items join keys ljust lower lstrip partition pop remove replace reverse rfind rjust rpartition rsplit rstrip "
    "setdefault split splitlines startswith strip update upper values zfill bit_length".split())
METHODS_THAT_CHANGE = set("append clear extend insert pop remove reverse setdefault update".split())
WORDS_NOT_USED = re.compile(
    r"\b(type|typing|typing_extensions|enum|Enum|IntEnum|StrEnum|Flag|IntFlag|Generic|Protocol|ABC|ABCMeta|namedtuple"
    r"|NamedTuple|TypedDict|TYPE_CHECKING|abstractmethod)\b|dataclass|overload|contextmanager")


def nodes(kind):
    for path in FILES:
        for node in ast.walk(ast.parse(path.read_text())):
            if isinstance(node, kind):
                yield path.name, node


class Language(unittest.TestCase):
    def test_files(self):
        self.assertIn(PACKAGE / "__init__.py", FILES)
        for path in FILES:
            self.assertRegex(path.name, r"\A[a-z_0-9]+\.py\Z")
            text = path.read_bytes().decode("ascii")
            self.assertRegex(text, r"\A[\n -~]*\Z", path.name)
            self.assertIsNone(WORDS_NOT_USED.search(text), path.name)
            self.assertLessEqual(len(text.splitlines()), 400, path.name)
            self.assertLessEqual(max(map(len, text.splitlines())), 120, path.name)

    def test_functions_are_short_and_plain(self):
        for name, node in nodes(ast.FunctionDef):
            self.assertLessEqual(node.end_lineno - node.lineno + 1, 40, (name, node.name))
            self.assertEqual(node.decorator_list, [])
            self.assertFalse(node.args.vararg or node.args.kwarg or node.args.kwonlyargs or node.args.posonlyargs)

    def test_statements_and_expressions(self):
        for name, node in nodes((ast.stmt, ast.expr)):
            self.assertIsInstance(node, STATEMENTS + EXPRESSIONS, name)
        for name, node in nodes(ast.Constant):
            self.assertIn(type(node.value), (int, str, bool, type(None)), name)
        for name, node in nodes((ast.For, ast.While)):
            self.assertEqual(node.orelse, [], name)
        for name, node in nodes(ast.Assign):
            self.assertEqual([type(target) == ast.Tuple for target in node.targets], [False], name)

    def test_comprehensions_comparisons_and_lambdas(self):
        for name, node in nodes(ast.ListComp):
            self.assertEqual(len(node.generators), 1, name)
            self.assertLessEqual(len(node.generators[0].ifs), 1, name)
        for name, node in nodes(ast.Compare):
            for operator, right in zip(node.ops, node.comparators):
                if isinstance(operator, (ast.Is, ast.IsNot)):
                    self.assertIn(getattr(right, "value", 0), (None, True, False), name)
        lines = [(name, node.lineno) for name, node in nodes(ast.Lambda)]
        self.assertEqual(len(lines), len(set(lines)))

    def test_operators_and_texts(self):
        for name, node in nodes((ast.Div, ast.MatMult, ast.Pow)):
            self.fail(f"{name}: an operator that is not used")
        for name, node in nodes(ast.Constant):
            if isinstance(node.value, str):
                self.assertNotIn("%", node.value, name)

    def test_what_a_loop_walks_is_not_bound_or_changed_in_it(self):
        for name, node in nodes(ast.For):
            walked = {ast.dump(part) for part in ast.walk(node.iter) if isinstance(part, (ast.Name, ast.Attribute))}
            for part in [inner for line in node.body for inner in ast.walk(line)]:
                if isinstance(part, ast.Attribute) and part.attr in METHODS_THAT_CHANGE:
                    self.assertNotIn(ast.dump(part.value), walked, name)
                if isinstance(part, (ast.Assign, ast.AugAssign)):
                    for target in getattr(part, "targets", None) or [part.target]:
                        place = target.value if isinstance(target, ast.Subscript) else target
                        self.assertNotIn(ast.dump(place).replace("Store()", "Load()"), walked, name)

    def test_names_of_a_file_are_bound_once(self):
        for path in FILES:
            bound = []
            tree = ast.parse(path.read_text())
            for part in tree.body:
                if isinstance(part, (ast.FunctionDef, ast.ClassDef)):
                    bound.append(part.name)
                if isinstance(part, ast.ImportFrom):
                    bound.extend(imported.name for imported in part.names)
                if isinstance(part, ast.Assign):
                    bound.append(part.targets[0].id)
            self.assertEqual(len(bound), len(set(bound)), path.name)
            inner = [node for part in tree.body if not isinstance(part, ast.Assign) for node in ast.walk(part)]
            given = {node.arg for node in inner if isinstance(node, ast.arg)}
            given |= {node.id for node in inner if isinstance(node, ast.Name) and isinstance(node.ctx, ast.Store)}
            self.assertEqual(given & set(bound), set(), path.name)

    def test_no_two_files_draw_from_one_another(self):
        drawn = {path.stem: set() for path in FILES}
        for name, node in nodes(ast.ImportFrom):
            drawn[name[:-len(".py")]].add(node.module.split(".")[1])
        while drawn:
            free = [name for name, sources in drawn.items() if not sources & set(drawn)]
            self.assertNotEqual(free, [], drawn)
            drawn = {name: sources for name, sources in drawn.items() if name not in free}

    def test_only_a_module_has_a_text_by_itself(self):
        for name, node in nodes((ast.FunctionDef, ast.ClassDef)):
            for part in node.body:
                self.assertFalse(isinstance(part, ast.Expr) and not isinstance(part.value, ast.Call), name)

    def test_imports_are_from_own_files_that_define_the_name(self):
        for name, node in nodes(ast.ImportFrom):
            self.assertNotEqual(name, "__init__.py")
            self.assertRegex(node.module, r"\Apairchecks\.[a-z]+\Z")
            source = ast.parse((PACKAGE / (node.module.split(".")[1] + ".py")).read_text())
            defined = [part.name for part in source.body if isinstance(part, (ast.FunctionDef, ast.ClassDef))]
            for imported in node.names:
                self.assertIn(imported.name, defined)
                self.assertIsNone(imported.asname)

    def test_names(self):
        for name, node in nodes(ast.Name):
            self.assertFalse(node.id.startswith("_"), (name, node.id))
            if hasattr(builtins, node.id):
                self.assertIn(node.id, OWN_NAMES_OF_PYTHON, name)
                self.assertIsInstance(node.ctx, ast.Load, (name, node.id))
        for name, node in nodes(ast.arg):
            self.assertFalse(node.arg.startswith("_") or hasattr(builtins, node.arg), (name, node.arg))

    def test_methods_and_values_of_objects(self):
        methods = {
            part.name for _, node in nodes(ast.ClassDef) for part in node.body if isinstance(part, ast.FunctionDef)}
        values = {node.attr for _, node in nodes(ast.Attribute) if isinstance(node.ctx, ast.Store)}
        self.assertEqual(methods & values, set())
        for name, node in nodes(ast.Attribute):
            self.assertIn(node.attr, methods | values | METHODS_OF_PYTHON, name)
        for attribute in (methods - {"__init__"}) | values:
            for own in (str, int, list, dict, set, bytes):
                self.assertFalse(hasattr(own, attribute), attribute)


if __name__ == "__main__":
    unittest.main()
