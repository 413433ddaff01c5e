"""What of LANGUAGE.md can be seen in the package's files without running them."""
import ast
import builtins
import pathlib
import re
import unittest

PACKAGE = pathlib.Path(__file__).resolve().parent.parent / "chancechoices"

ALLOWED_NODES = {
    "Module", "FunctionDef", "ClassDef", "arguments", "arg", "Assign", "AugAssign", "If", "While", "For", "Return",
    "Break", "Continue", "Pass", "Raise", "Try", "ExceptHandler", "Expr", "Call", "keyword", "Name", "Attribute",
    "Subscript", "Slice", "Constant", "List", "Tuple", "Dict", "BinOp", "UnaryOp", "BoolOp", "Compare", "IfExp",
    "ListComp", "comprehension", "Lambda", "JoinedStr", "FormattedValue", "Load", "Store", "Add", "Sub", "Mult",
    "FloorDiv", "Mod", "Pow", "BitAnd", "BitOr", "BitXor", "LShift", "RShift", "Invert", "USub", "UAdd", "Not",
    "And", "Or", "Eq", "NotEq", "Lt", "LtE", "Gt", "GtE", "In", "NotIn", "Is", "IsNot", "ImportFrom", "alias",
}
ALLOWED_BUILTINS = set(
    "len range enumerate zip min max sum abs sorted reversed int str bool list tuple dict set frozenset isinstance "
    "ord repr any all divmod Exception ValueError TypeError KeyError IndexError LookupError ZeroDivisionError "
    "ArithmeticError OverflowError RuntimeError NotImplementedError AttributeError StopIteration".split())
ALLOWED_METHODS = set(
    "append clear copy count endswith extend find get index insert isalnum isalpha isdigit islower isspace isupper "
    "items join keys ljust lower lstrip partition pop remove replace reverse rfind rjust rpartition rsplit rstrip "
    "setdefault split splitlines startswith strip update upper values zfill bit_length".split())
ALLOWED_DUNDERS = {"__init__", "__eq__", "__repr__", "__str__", "__len__", "__all__", "__version__"}
FORBIDDEN_WORDS = re.compile(
    r"\b(type|typing|typing_extensions|enum|Enum|IntEnum|StrEnum|Flag|IntFlag|Generic|Protocol|ABC|ABCMeta|namedtuple|"
    r"NamedTuple|TypedDict|TYPE_CHECKING|abstractmethod)\b|dataclass|overload|contextmanager")
FORBIDDEN_NAMES = {"register", "mro", "elements", "open", "input", "version_info", "with_traceback", "add_note", "chr"}
PYTHONS_OWN = set(dir(builtins))


def sources():
    return [(path, path.read_text("utf-8")) for path in sorted(PACKAGE.rglob("*.py"))]


def nodes(*kinds):
    return [(path.name, node) for path, source in sources() for node in ast.walk(ast.parse(source))
            if not kinds or isinstance(node, kinds)]


class Form(unittest.TestCase):
    def test_only_python_files_with_plain_names_lie_in_the_package(self):
        for path in PACKAGE.rglob("*"):
            if "__pycache__" not in path.parts:
                self.assertRegex(path.name, r"^(__init__|[a-z][a-z0-9_]*)\.py$")
        self.assertTrue((PACKAGE / "__init__.py").is_file())

    def test_signs_words_and_sizes(self):
        for path, source in sources():
            self.assertRegex(source, r"\A[ -~\n]*\Z", path)
            self.assertIsNone(FORBIDDEN_WORDS.search(source), path)
            lines = source.splitlines()
            self.assertLessEqual(len(lines), 400, path)
            self.assertLessEqual(max(map(len, lines), default=0), 120, path)

    def test_functions_are_short_and_plain(self):
        for name, node in nodes(ast.FunctionDef):
            where = name + ":" + node.name
            self.assertLessEqual(node.end_lineno - node.lineno + 1, 40, where)
            self.assertEqual(node.decorator_list, [], where)
            given = node.args
            self.assertFalse(given.vararg or given.kwarg or given.kwonlyargs or given.posonlyargs, where)

    def test_only_allowed_forms_stand(self):
        for name, node in nodes():
            where = name + ":" + str(getattr(node, "lineno", ""))
            self.assertIn(type(node).__name__, ALLOWED_NODES, where)
            if isinstance(node, (ast.For, ast.While)):
                self.assertEqual(node.orelse, [], where)
            if isinstance(node, ast.Try):
                self.assertEqual(node.finalbody, [], where)
            if isinstance(node, ast.Assign):
                self.assertEqual(len(node.targets), 1, where)
            if isinstance(node, ast.Constant):
                self.assertNotIsInstance(node.value, (float, bytes, complex), where)
            if isinstance(node, ast.Constant) and isinstance(node.value, str):
                self.assertNotIn("%", node.value, where)

    def test_only_names_of_the_packages_own_files_are_imported_from_where_they_stand(self):
        tops = {"chancechoices." + path.stem: ast.parse(source).body for path, source in sources()}
        for name, node in nodes(ast.ImportFrom):
            self.assertEqual(node.level, 0, name)
            self.assertIn(node.module, tops, name)
            defined = [top.targets[0].id if isinstance(top, ast.Assign) else getattr(top, "name", "")
                       for top in tops[node.module]]
            for alias in node.names:
                self.assertIn(alias.name, defined, name)
                self.assertIsNone(alias.asname, name)

    def test_no_two_files_draw_from_one_another(self):
        self.assertEqual({(name, node.module) for name, node in nodes(ast.ImportFrom)},
                         {("chances.py", "chancechoices.texts")})

    def test_names(self):
        for name, node in nodes(ast.Name):
            where = name + ":" + str(node.lineno) + ":" + node.id
            self.assertNotIn(node.id, FORBIDDEN_NAMES, where)
            self.assertRegex(node.id, r"^[A-Za-z]", where)
            if isinstance(node.ctx, ast.Store):
                self.assertNotIn(node.id, PYTHONS_OWN, where)
            elif node.id in PYTHONS_OWN:
                self.assertIn(node.id, ALLOWED_BUILTINS, where)
        for name, node in nodes(ast.arg):
            self.assertNotIn(node.arg, PYTHONS_OWN, name)
            self.assertRegex(node.arg, r"^[A-Za-z]", name)
        for name, node in nodes(ast.FunctionDef, ast.ClassDef):
            if node.name not in ALLOWED_DUNDERS:
                self.assertRegex(node.name, r"^[A-Za-z]", name)

    def test_methods_are_the_packages_own_or_allowed(self):
        own = {node.name for name, node in nodes(ast.FunctionDef)}
        for name, node in nodes(ast.Call):
            if isinstance(node.func, ast.Attribute):
                self.assertIn(node.func.attr, ALLOWED_METHODS | own, name + ":" + str(node.lineno))

    def test_each_name_of_a_files_top_is_bound_once_to_a_plain_value(self):
        for path, source in sources():
            bound = []
            for node in ast.parse(source).body:
                self.assertIsInstance(node, (ast.Expr, ast.FunctionDef, ast.ClassDef, ast.Assign, ast.ImportFrom), path)
                if isinstance(node, ast.Assign):
                    bound.append(node.targets[0].id)
                    ast.literal_eval(node.value)
                elif isinstance(node, ast.Expr):
                    self.assertIsInstance(node.value, ast.Constant, path)
                elif isinstance(node, ast.ImportFrom):
                    bound += [alias.name for alias in node.names]
                else:
                    bound.append(node.name)
            self.assertEqual(sorted(set(bound)), sorted(bound), path)


if __name__ == "__main__":
    unittest.main()
