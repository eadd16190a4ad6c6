"""The form of the package's own files, as far as it can be seen by reading them."""

import ast
import builtins
import pathlib
import re
import unittest

PACKAGE = pathlib.Path(__file__).resolve().parent.parent / "postnames"

NODES = (
    ast.Module, ast.FunctionDef, ast.ClassDef, ast.arguments, ast.arg, ast.ImportFrom, ast.alias,
    ast.Assign, ast.AugAssign, ast.If, ast.While, ast.For, ast.Return, ast.Break, ast.Continue, ast.Pass,
    ast.Raise, ast.Try, ast.ExceptHandler, ast.Expr, ast.Constant, ast.List, ast.Tuple, ast.Dict,
    ast.BinOp, ast.UnaryOp, ast.BoolOp, ast.Compare, ast.IfExp, ast.Call, ast.keyword, ast.Attribute,
    ast.Subscript, ast.Slice, ast.ListComp, ast.comprehension, ast.JoinedStr, ast.FormattedValue, ast.Name,
    ast.Lambda, ast.operator, ast.unaryop, ast.boolop, ast.cmpop, ast.expr_context,
)
OWN_NAMES = set(
    "len range enumerate zip min max sum abs sorted reversed int str bool list tuple dict isinstance ord repr"
    " any all divmod Exception ValueError KeyError IndexError LookupError ZeroDivisionError ArithmeticError"
    " OverflowError RuntimeError NotImplementedError StopIteration".split())
METHODS = set(
    "append clear copy count endswith extend find get index insert isalnum isalpha isdigit islower isspace"
    " isupper items join keys ljust lower lstrip partition pop remove replace reverse rfind rjust rpartition"
    " rsplit rstrip setdefault split splitlines startswith strip update upper values zfill bit_length".split())
UNUSED_NAMES = set(
    "register mro elements open input version_info with_traceback add_note attrgetter breakpoint builtins compile"
    " copyright credits delattr dir eval exec exit gc getattr globals hasattr help id importlib license locals"
    " methodcaller os quit setattr super type vars sys format format_map".split())
UNUSED_WORDS = re.compile(
    r"\b(type|typing|typing_extensions|enum|Enum|IntEnum|StrEnum|Flag|IntFlag|Generic|Protocol|ABC|ABCMeta"
    r"|namedtuple|NamedTuple|TypedDict|TYPE_CHECKING|abstractmethod)\b|dataclass|overload|contextmanager")
DUNDERS = {"__init__", "__eq__", "__repr__", "__str__", "__len__"}


def sources():
    return {path.stem: path.read_text(encoding="utf-8") for path in sorted(PACKAGE.glob("*.py"))}


def trees():
    return {stem: ast.parse(source) for stem, source in sources().items()}


def top_names(tree):
    names = []
    for node in tree.body:
        if isinstance(node, (ast.FunctionDef, ast.ClassDef)):
            names.append(node.name)
        elif isinstance(node, ast.Assign):
            names += [target.id for target in node.targets]
    return names


def imports(tree):
    return [node for node in tree.body if isinstance(node, ast.ImportFrom)]


class Files(unittest.TestCase):

    def test_only_plain_files(self):
        for path in PACKAGE.rglob("*"):
            if "__pycache__" in path.parts:
                continue
            self.assertRegex(path.name, r"^(__init__|[a-z][a-z0-9_]*)\.py$")
        self.assertIn("__init__", sources())

    def test_signs_and_sizes(self):
        for stem, source in sources().items():
            self.assertRegex(source, r"\A[ -~\n]*\Z", stem)
            rows = source.split("\n")
            self.assertLessEqual(len(rows), 400, stem)
            self.assertLessEqual(max(len(row) for row in rows), 120, stem)

    def test_functions_are_small(self):
        for stem, tree in trees().items():
            for node in ast.walk(tree):
                if isinstance(node, ast.FunctionDef):
                    self.assertLessEqual(node.end_lineno - node.lineno + 1, 40, (stem, node.name))

    def test_words_that_are_not_used(self):
        for stem, source in sources().items():
            self.assertIsNone(UNUSED_WORDS.search(source), stem)


class Code(unittest.TestCase):

    def each_node(self):
        for stem, tree in trees().items():
            for node in ast.walk(tree):
                yield (stem, getattr(node, "lineno", 0)), node

    def test_statements_and_expressions(self):
        for place, node in self.each_node():
            self.assertIsInstance(node, NODES, place)
            if isinstance(node, ast.Constant):
                self.assertNotIsInstance(node.value, (float, bytes, complex), place)
                if isinstance(node.value, str):
                    self.assertNotIn("%", node.value, place)
            if isinstance(node, ast.Assign):
                self.assertEqual(len(node.targets), 1, place)
            if isinstance(node, (ast.While, ast.For)):
                self.assertEqual(node.orelse, [], place)
            if isinstance(node, ast.BinOp):
                self.assertNotIsInstance(node.op, (ast.Div, ast.Pow, ast.MatMult), place)
            if isinstance(node, (ast.FunctionDef, ast.ClassDef)):
                self.assertEqual(node.decorator_list, [], place)
            if isinstance(node, ast.arguments):
                self.assertEqual((node.vararg, node.kwarg, node.kwonlyargs), (None, None, []), place)
            if isinstance(node, ast.ListComp):
                self.assertEqual(len(node.generators), 1, place)
                self.assertLessEqual(len(node.generators[0].ifs), 1, place)

    def test_names(self):
        methods = {node.name for place, node in self.each_node() if isinstance(node, ast.FunctionDef)}
        for place, node in self.each_node():
            if isinstance(node, ast.Name):
                self.assertNotIn(node.id, UNUSED_NAMES, place)
                self.assertNotEqual(node.id[0], "_", place)
                if isinstance(node.ctx, ast.Store):
                    self.assertFalse(hasattr(builtins, node.id), (place, node.id))
                elif hasattr(builtins, node.id):
                    self.assertIn(node.id, OWN_NAMES, place)
            if isinstance(node, ast.arg):
                self.assertFalse(hasattr(builtins, node.arg), (place, node.arg))
            if isinstance(node, ast.Attribute):
                self.assertNotIn(node.attr, UNUSED_NAMES, place)
                self.assertTrue(node.attr[0] != "_" or node.attr in DUNDERS, (place, node.attr))
            if isinstance(node, ast.Call) and isinstance(node.func, ast.Attribute):
                self.assertIn(node.func.attr, METHODS | methods, place)

    def test_errors_are_the_programs_own(self):
        own = {node.name for place, node in self.each_node() if isinstance(node, ast.ClassDef)}
        for place, node in self.each_node():
            if isinstance(node, ast.ExceptHandler):
                self.assertIn(node.type.id, own, place)
            if isinstance(node, ast.Raise):
                self.assertIn(node.exc.func.id, own, place)

    def test_is_beside_none_alone(self):
        for place, node in self.each_node():
            if isinstance(node, ast.Compare) and isinstance(node.ops[0], (ast.Is, ast.IsNot)):
                self.assertIsNone(node.comparators[0].value, place)

    def test_top_of_a_file(self):
        for stem, tree in trees().items():
            self.assertIsNotNone(ast.get_docstring(tree), stem)
            names = top_names(tree) + [alias.name for node in imports(tree) for alias in node.names]
            self.assertEqual(len(names), len(set(names)), stem)
            for node in tree.body[1:]:
                self.assertIsInstance(node, (ast.ImportFrom, ast.FunctionDef, ast.ClassDef, ast.Assign), stem)
                if isinstance(node, ast.Assign):
                    ast.literal_eval(node.value)

    def test_imports(self):
        drawn = {}
        for stem, tree in trees().items():
            drawn[stem] = set()
            for node in imports(tree):
                package, dot, source = node.module.partition(".")
                self.assertEqual((package, node.level), ("postnames", 0), stem)
                drawn[stem].add(source)
                for alias in node.names:
                    self.assertIn(alias.name, top_names(trees()[source]), stem)
        self.assertEqual(drawn["__init__"], set())
        while drawn:
            free = [stem for stem in drawn if not drawn[stem] & set(drawn)]
            self.assertTrue(free, f"files draw from one another: {sorted(drawn)}")
            for stem in free:
                del drawn[stem]

    def test_locals_are_called_apart(self):
        for stem, tree in trees().items():
            taken = {alias.name for node in imports(tree) for alias in node.names}
            taken |= {node.name for node in tree.body if isinstance(node, ast.ClassDef)}
            for function in ast.walk(tree):
                if not isinstance(function, ast.FunctionDef):
                    continue
                for node in ast.walk(function):
                    if isinstance(node, ast.arg):
                        self.assertNotIn(node.arg, taken, (stem, node.lineno))
                    if isinstance(node, ast.Name) and isinstance(node.ctx, ast.Store):
                        self.assertNotIn(node.id, taken, (stem, node.lineno))

    def test_lists_and_dicts_of_the_top_are_only_read(self):
        for stem, tree in trees().items():
            for node in tree.body:
                if isinstance(node, ast.Assign) and isinstance(node.value, (ast.List, ast.Dict)):
                    within = [part for part in ast.walk(node.value) if isinstance(part, (ast.List, ast.Dict))]
                    self.assertEqual(within, [node.value], (stem, node.lineno))
            for node in ast.walk(tree):
                if isinstance(node, (ast.Attribute, ast.Subscript)) and isinstance(node.ctx, ast.Store):
                    self.assertNotIsInstance(node.value, ast.Constant, (stem, node.lineno))
                    if isinstance(node.value, ast.Name):
                        self.assertFalse(node.value.id.isupper(), (stem, node.lineno))

    def test_walked_at_once(self):
        walks = ("range", "zip", "enumerate", "reversed")
        for stem, tree in trees().items():
            fitting = set()
            for node in ast.walk(tree):
                if isinstance(node, (ast.For, ast.comprehension)):
                    fitting.add(id(node.iter))
                if isinstance(node, ast.Call) and node.args and isinstance(node.func, ast.Name):
                    if node.func.id in ("list", "tuple", "dict", "sorted", "sum", "any", "all", "enumerate", "zip"):
                        fitting.add(id(node.args[0]))
            for node in ast.walk(tree):
                if isinstance(node, ast.Call) and isinstance(node.func, ast.Name) and node.func.id in walks:
                    self.assertIn(id(node), fitting, (stem, node.lineno))

    def test_methods_and_values_are_called_apart(self):
        methods = set()
        values = set()
        for place, node in self.each_node():
            if isinstance(node, ast.ClassDef):
                methods |= {part.name for part in node.body if isinstance(part, ast.FunctionDef)}
            if isinstance(node, ast.Attribute) and isinstance(node.ctx, ast.Store):
                values.add(node.attr)
        self.assertEqual(methods & values, set())
        for value in (str, int, list, dict, set, bytes):
            self.assertEqual(((methods | values) - DUNDERS) & set(dir(value)), set())


if __name__ == "__main__":
    unittest.main()
