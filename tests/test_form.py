"""The form of the package's files: what of LANGUAGE.md can be seen in their syntax trees."""

import ast
import builtins
import pathlib
import re
import unittest

PACKAGE = pathlib.Path(__file__).resolve().parent.parent / "tokenwright"

NODES = set("""
    Module FunctionDef ClassDef Return Assign AugAssign For While If Raise Try ExceptHandler ImportFrom alias
    Expr Pass Break Continue BoolOp And Or BinOp Add Sub Mult FloorDiv Mod Pow LShift RShift BitOr BitXor BitAnd
    UnaryOp Not USub Invert Lambda IfExp Dict Set ListComp comprehension Compare Eq NotEq Lt LtE Gt GtE Is IsNot
    In NotIn Call keyword FormattedValue JoinedStr Constant Attribute Subscript Slice Name List Tuple Load Store
    arguments arg""".split())
OWN_NAMES = set("""
    len range enumerate zip min max sum abs sorted reversed int str bool list tuple dict set frozenset isinstance
    ord repr any all divmod Exception ValueError TypeError KeyError IndexError LookupError ZeroDivisionError
    ArithmeticError OverflowError RuntimeError NotImplementedError AttributeError StopIteration""".split())
OWN_METHODS = set("""
    append clear copy count endswith extend find get index insert isalnum isalpha isdigit islower isspace isupper
    items join keys ljust lower lstrip partition pop remove replace reverse rfind rjust rpartition rsplit rstrip
    setdefault split splitlines startswith strip update upper values zfill bit_length""".split())
UNDERSCORED = set("__init__ __eq__ __repr__ __str__ __len__ __all__ __version__ __name__".split())
BARRED_WORDS = re.compile(
    r"\b(type|typing|typing_extensions|enum|Enum|IntEnum|StrEnum|Flag|IntFlag|Generic|Protocol|ABC|ABCMeta"
    r"|namedtuple|NamedTuple|TypedDict|TYPE_CHECKING|abstractmethod)\b|dataclass|overload|contextmanager")
BARRED_NAMES = set("register mro elements open input version_info with_traceback add_note format format_map".split())
KEYWORDS = {"sorted": ("key", "reverse"), "min": ("key", "default"), "max": ("key", "default"),
            "sum": ("start",), "enumerate": ("start",), "zip": ("strict",)}

WALKED_NAMES = ("zip", "enumerate", "reversed", "range")
WALKED_METHODS = ("items", "keys", "values")
WALKING = set("list tuple dict sorted sum any all enumerate zip min max".split())
FREE_VALUES = set("count index title find get join lower upper split strip copy add".split())
TAKEN_VALUES = {name for kind in (str, int, list, dict, set, bytes) for name in dir(kind)} | {"args"}


def names_bound(node):
    if isinstance(node, ast.Name):
        return [] if isinstance(node.ctx, ast.Load) else [node.id]
    if isinstance(node, ast.arg):
        return [node.arg]
    if isinstance(node, (ast.FunctionDef, ast.ClassDef, ast.ExceptHandler)):
        return [node.name] if node.name else []
    return [node.attr] if isinstance(node, ast.Attribute) and isinstance(node.ctx, ast.Store) else []


def is_plain(node):
    if isinstance(node, (ast.List, ast.Tuple)):
        return all(is_plain(part) for part in node.elts)
    if isinstance(node, ast.Dict):
        return all(is_plain(part) for part in node.keys + node.values)
    return isinstance(node, (ast.Constant, ast.Name))


def top_is_allowed(node):
    if isinstance(node, ast.Assign):
        return is_plain(node.value)
    return isinstance(node, (ast.ImportFrom, ast.FunctionDef, ast.ClassDef))


def class_is_allowed(node):
    bodies = all(isinstance(part, (ast.FunctionDef, ast.Pass)) for part in node.body)
    return bodies and len(node.bases) <= 1 and not node.keywords and not node.decorator_list


def function_is_allowed(node):
    given = node.args
    annotated = [part for part in given.args if part.annotation] or node.returns
    odd = given.vararg or given.kwarg or given.kwonlyargs or given.posonlyargs
    return not (odd or annotated or node.decorator_list) and node.end_lineno - node.lineno < 40


def name_is_allowed(name):
    return name in UNDERSCORED or (not name.startswith("_") and name.isascii() and name not in BARRED_NAMES
                                   and not hasattr(builtins, name))


def constant_is_allowed(node):
    if isinstance(node.value, str):
        return "%" not in node.value
    return node.value is None or isinstance(node.value, (bool, int))


def call_is_allowed(node, methods):
    if isinstance(node.func, ast.Attribute):
        return node.func.attr in methods
    known = isinstance(node.func, ast.Name)
    own = known and hasattr(builtins, node.func.id)
    return known and (not own or all(word.arg in KEYWORDS.get(node.func.id, ()) for word in node.keywords))


def is_is_allowed(node):
    beside = [node.left] + node.comparators
    asked = any(isinstance(sign, (ast.Is, ast.IsNot)) for sign in node.ops)
    return not asked or any(isinstance(part, ast.Constant) and part.value in (None, True, False) for part in beside)


def is_walked(node):
    if not isinstance(node, ast.Call):
        return False
    if isinstance(node.func, ast.Name):
        return node.func.id in WALKED_NAMES
    return isinstance(node.func, ast.Attribute) and node.func.attr in WALKED_METHODS


def walks(parent, node):
    if isinstance(parent, (ast.For, ast.comprehension)):
        return parent.iter is node
    if not isinstance(parent, ast.Call) or parent.args[:1] != [node]:
        return False
    if isinstance(parent.func, ast.Name):
        return parent.func.id in WALKING
    return isinstance(parent.func, ast.Attribute) and parent.func.attr == "join"


def class_may_stand(parent, node):
    if isinstance(parent, ast.Call):
        return parent.func is node or getattr(parent.func, "id", None) == "isinstance"
    return isinstance(parent, (ast.ClassDef, ast.ExceptHandler, ast.Attribute))


class FormTest(unittest.TestCase):
    @classmethod
    def setUpClass(cls):
        cls.files = sorted(path for path in PACKAGE.rglob("*") if "__pycache__" not in path.parts)
        cls.texts = {path.stem: path.read_text(encoding="utf-8") for path in cls.files}
        cls.trees = {name: ast.parse(text) for name, text in cls.texts.items()}
        cls.methods = OWN_METHODS | {"__init__"} | {
            part.name for tree in cls.trees.values() for node in ast.walk(tree) if isinstance(node, ast.ClassDef)
            for part in node.body if isinstance(part, ast.FunctionDef)}

    def each_node(self, *kinds):
        for name, tree in self.trees.items():
            for node in ast.walk(tree):
                if isinstance(node, kinds or ast.AST):
                    yield f"{name}.py, line {getattr(node, 'lineno', 0)}", node

    def test_files(self):
        self.assertIn("__init__", self.texts)
        for path in self.files:
            self.assertRegex(path.name, r"^(__init__|__main__|[a-z][a-z0-9_]*)\.py$")

    def test_signs_sizes_and_words(self):
        for name, text in self.texts.items():
            self.assertRegex(text, r"\A[ -~\n]*\Z", name)
            self.assertIsNone(BARRED_WORDS.search(text), name)
            self.assertLessEqual(len(text.splitlines()), 400, name)
            for line in text.splitlines():
                self.assertLessEqual(len(line), 120, name)

    def test_the_tops(self):
        for name, tree in self.trees.items():
            self.assertIsNotNone(ast.get_docstring(tree), name)
            for node in tree.body[1:]:
                self.assertTrue(top_is_allowed(node), f"{name}.py, line {node.lineno}")
            bound = [part for node in tree.body for target in ast.walk(node) if node is target
                     or isinstance(node, ast.Assign) for part in names_bound(target)]
            self.assertEqual(len(bound), len(set(bound)), name)

    def test_imports(self):
        drawn = {name: [] for name in self.trees}
        for name, tree in self.trees.items():
            for node in ast.walk(tree):
                if isinstance(node, ast.ImportFrom):
                    self.assertEqual(node.level, 0)
                    self.assertRegex(node.module, r"^tokenwright\.[a-z_]+$")
                    source = node.module.split(".")[1]
                    drawn[name].append(source)
                    for part in node.names:
                        self.assertIn(part.name, [n for top in self.trees[source].body for inner in ast.walk(top)
                                                  if not isinstance(top, ast.ImportFrom) for n in names_bound(inner)])
        self.assertEqual(drawn["__init__"], [])
        while drawn:
            ready = [name for name, sources in drawn.items() if not any(source in drawn for source in sources)]
            self.assertTrue(ready, f"these draw from one another: {sorted(drawn)}")
            drawn = {name: sources for name, sources in drawn.items() if name not in ready}

    def test_only_the_allowed_parts_of_the_language(self):
        for where, node in self.each_node():
            self.assertIn(node.__class__.__name__, NODES, where)
            if isinstance(node, ast.Expr):
                told = isinstance(node.value, ast.Call) or node.value.col_offset == 0
                self.assertTrue(told, where)
            if isinstance(node, (ast.For, ast.While)):
                self.assertEqual(node.orelse, [], where)
            if isinstance(node, ast.Assign):
                self.assertEqual(len(node.targets), 1, where)
            if isinstance(node, ast.ListComp):
                self.assertTrue(len(node.generators) == 1 and len(node.generators[0].ifs) <= 1, where)
            if isinstance(node, ast.Compare):
                self.assertTrue(is_is_allowed(node), where)

    def test_classes_and_functions(self):
        for where, node in self.each_node(ast.ClassDef):
            self.assertTrue(class_is_allowed(node), where)
        for where, node in self.each_node(ast.FunctionDef):
            self.assertTrue(function_is_allowed(node), where)

    def test_names(self):
        for where, node in self.each_node():
            for name in names_bound(node):
                self.assertTrue(name_is_allowed(name), f"{where}: {name}")
            if isinstance(node, ast.Name) and hasattr(builtins, node.id):
                self.assertIn(node.id, OWN_NAMES, where)

    def test_no_local_is_called_like_a_class_or_an_import(self):
        for name, tree in self.trees.items():
            taken = [part.name for node in tree.body if isinstance(node, ast.ImportFrom) for part in node.names]
            taken += [node.name for node in tree.body if isinstance(node, ast.ClassDef)]
            for node in ast.walk(tree):
                if isinstance(node, (ast.Name, ast.arg)):
                    self.assertFalse(set(names_bound(node)) & set(taken), name)

    def test_no_name_is_a_method_here_and_a_value_there(self):
        values = {node.attr for _, node in self.each_node(ast.Attribute) if isinstance(node.ctx, ast.Store)}
        methods = {part.name for _, node in self.each_node(ast.ClassDef) for part in node.body
                   if isinstance(part, ast.FunctionDef)}
        self.assertEqual(values & methods, set())

    def each_pair(self):
        for where, parent in self.each_node():
            for node in ast.iter_child_nodes(parent):
                yield f"{where}, in it line {getattr(node, 'lineno', 0)}", parent, node

    def test_what_is_walked_is_walked_on_the_spot(self):
        for where, parent, node in self.each_pair():
            if is_walked(node):
                self.assertTrue(walks(parent, node), where)

    def test_classes_are_not_handed_on(self):
        classes = {node.name for _, node in self.each_node(ast.ClassDef)}
        for where, parent, node in self.each_pair():
            if isinstance(node, ast.Name) and node.id in classes:
                self.assertTrue(class_may_stand(parent, node), where)

    def test_no_sets(self):
        for where, node in self.each_node(ast.Set, ast.Name):
            self.assertFalse(isinstance(node, ast.Set) or node.id in ("set", "frozenset"), where)

    def test_values_have_free_names(self):
        for where, node in self.each_node(ast.Attribute):
            if isinstance(node.ctx, ast.Store):
                self.assertNotIn(node.attr, TAKEN_VALUES - FREE_VALUES, where)

    def test_values_and_calls(self):
        for where, node in self.each_node(ast.Constant):
            self.assertTrue(constant_is_allowed(node), where)
        for where, node in self.each_node(ast.Call):
            self.assertTrue(call_is_allowed(node, self.methods), where)


if __name__ == "__main__":
    unittest.main()
