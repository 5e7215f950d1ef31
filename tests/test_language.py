"""The rules of ../shared/LANGUAGE.md that a walk over the package's syntax trees can see."""

import ast
import builtins
import io
import pathlib
import re
import tokenize
import unittest

PACKAGE = pathlib.Path(__file__).resolve().parent.parent / "onceround"

ALLOWED_BUILTINS = set(
    "len range enumerate zip min max sum abs sorted reversed int str bool list tuple dict set frozenset isinstance "
    "ord repr any all divmod Exception ValueError TypeError KeyError IndexError LookupError ZeroDivisionError "
    "ArithmeticError OverflowError RuntimeError NotImplementedError AttributeError StopIteration".split()
)
ALLOWED_DUNDERS = {"__init__", "__eq__", "__repr__", "__str__", "__len__"}
PYTHONS_METHODS = set(
    "append clear copy count endswith extend find get index insert isalnum isalpha isdigit islower isspace isupper "
    "items join keys ljust lower lstrip partition pop remove replace reverse rfind rjust rpartition rsplit rstrip "
    "setdefault split splitlines startswith strip update upper values zfill bit_length".split()
)
WALKED_AT_ONCE = {"zip", "enumerate", "reversed", "range"}
VIEWS = {"items", "keys", "values"}
WALKERS = {"list", "tuple", "dict", "sorted", "sum", "any", "all", "enumerate", "zip"}
KEYWORDS = {
    "sorted": {"key", "reverse"}, "min": {"key", "default"}, "max": {"key", "default"}, "sum": {"start"},
    "enumerate": {"start"}, "zip": {"strict"},
}
WORDS_NOWHERE = (
    r"\b(type|typing|typing_extensions|enum|Enum|IntEnum|StrEnum|Flag|IntFlag|Generic|Protocol|ABC|ABCMeta|namedtuple"
    r"|NamedTuple|TypedDict|TYPE_CHECKING|abstractmethod)\b|dataclass|overload|contextmanager"
)
NAMES_NOWHERE = set(
    "register mro elements open input version_info with_traceback add_note attrgetter breakpoint builtins compile "
    "copyright credits delattr dir eval exec exit gc getattr globals hasattr help id importlib license locals "
    "methodcaller os quit setattr super vars sys chr format format_map print".split()
)
ALLOWED_NODES = (
    ast.Module, ast.ImportFrom, ast.alias, ast.FunctionDef, ast.ClassDef, ast.arguments, ast.arg, ast.Lambda,
    ast.Assign, ast.AugAssign, ast.If, ast.While, ast.For, ast.Return, ast.Break, ast.Continue, ast.Pass, ast.Raise,
    ast.Try, ast.ExceptHandler, ast.Expr, ast.Constant, ast.List, ast.Tuple, ast.Dict, ast.Set, ast.Name,
    ast.Attribute, ast.Subscript, ast.Slice, ast.Call, ast.keyword, ast.ListComp, ast.comprehension, ast.IfExp,
    ast.BinOp, ast.UnaryOp, ast.BoolOp, ast.Compare, ast.JoinedStr, ast.FormattedValue, ast.operator, ast.unaryop,
    ast.boolop, ast.cmpop, ast.expr_context,
)
BARRED_NODES = (ast.Div, ast.MatMult)


def files():
    return sorted(path for path in PACKAGE.iterdir() if path.name != "__pycache__")


def parsed():
    return [(path.name, ast.parse(path.read_text(encoding="utf-8"))) for path in files()]


def nodes(*kinds):
    return [(name, node) for name, tree in parsed() for node in ast.walk(tree) if isinstance(node, kinds)]


def with_parents(*kinds):
    found = []
    for name, tree in parsed():
        parent = {part: node for node in ast.walk(tree) for part in ast.iter_child_nodes(node)}
        found += [(name, node, parent[node]) for node in ast.walk(tree) if isinstance(node, kinds) and node in parent]
    return found


def called(node):
    """The name that a call calls, and whether it is a method."""
    if isinstance(node, ast.Call) and isinstance(node.func, ast.Name):
        return node.func.id, False
    if isinstance(node, ast.Call) and isinstance(node.func, ast.Attribute):
        return node.func.attr, True
    return None, False


def is_walked(node, parent):
    if isinstance(parent, (ast.For, ast.comprehension)):
        return parent.iter is node
    name, method = called(parent)
    if method:
        return name == "join" and isinstance(parent.func.value, ast.Constant)
    if name in ("min", "max"):
        return parent.args == [node]
    return name in WALKERS and (parent.args[0] is node or name == "zip")


def is_read(node, parent):
    """Whether a list or dict of a file's top is only read where it stands."""
    if isinstance(parent, (ast.For, ast.comprehension)):
        return parent.iter is node
    if isinstance(parent, ast.Subscript):
        return isinstance(parent.ctx, ast.Load)
    if isinstance(parent, ast.Attribute):
        return parent.attr in ("get", "items", "keys", "values", "count", "index", "copy")
    return isinstance(parent, ast.Compare) or called(parent) in [(word, False) for word in ("len", "list", "dict")]


def top_names(tree):
    named = [node.name for node in tree.body if isinstance(node, (ast.FunctionDef, ast.ClassDef))]
    return named + [node.targets[0].id for node in tree.body if isinstance(node, ast.Assign)]


def is_docstring(node):
    return isinstance(node, ast.Expr) and isinstance(node.value, ast.Constant) and isinstance(node.value.value, str)


def is_plain(node):
    if isinstance(node, (ast.List, ast.Tuple)):
        return all(is_plain(part) for part in node.elts)
    if isinstance(node, ast.Dict):
        return all(is_plain(part) for part in node.keys + node.values)
    if isinstance(node, ast.UnaryOp):
        return is_plain(node.operand)
    return isinstance(node, (ast.Constant, ast.Name))


class Files(unittest.TestCase):
    def test_names(self):
        for path in files():
            self.assertTrue(path.is_file(), path)
            self.assertRegex(path.name, r"^([a-z][a-z0-9_]*|__init__|__main__)\.py$")
            self.assertNotRegex(path.stem, r"^(tests?|testing|test_.*|site|conftest|sitecustomize|usercustomize)$")
            self.assertNotIn(path.stem, dir(builtins))

    def test_signs_and_sizes(self):
        for path in files():
            text = path.read_bytes().decode("utf-8")
            self.assertRegex(text, r"\A[ -~\n]*\Z", path)
            lines = text.splitlines()
            self.assertLessEqual(len(lines), 400, path)
            self.assertLessEqual(max(len(line) for line in lines), 120, path)
            self.assertIsNone(re.search(WORDS_NOWHERE, text), path)

    def test_length_of_functions(self):
        for name, node in nodes(ast.FunctionDef):
            self.assertLessEqual(node.end_lineno - node.lineno + 1, 40, (name, node.name))

    def test_escapes(self):
        for path in files():
            for token in tokenize.generate_tokens(io.StringIO(path.read_text(encoding="utf-8")).readline):
                if token.type == tokenize.STRING:
                    self.assertNotIn("%", token.string, path)
                    self.assertNotRegex(token.string, r"\\[^nt\\'\"]", path)


class Tops(unittest.TestCase):
    def test_what_stands_there(self):
        for name, tree in parsed():
            for number, node in enumerate(tree.body):
                docstring = number == 0 and is_docstring(node)
                plain = isinstance(node, ast.Assign) and is_plain(node.value)
                other = isinstance(node, (ast.ImportFrom, ast.FunctionDef, ast.ClassDef))
                self.assertTrue(docstring or plain or other, (name, node.lineno))

    def test_each_name_once(self):
        for name, tree in parsed():
            imported = [part.name for node in tree.body if isinstance(node, ast.ImportFrom) for part in node.names]
            bound = imported + top_names(tree)
            self.assertEqual(len(bound), len(set(bound)), name)

    def test_imports_come_from_the_file_that_defines_the_name(self):
        defined = {"onceround." + name[:-3]: top_names(tree) for name, tree in parsed()}
        for name, node in nodes(ast.ImportFrom):
            self.assertEqual(node.level, 0, name)
            for part in node.names:
                self.assertIn(part.name, defined[node.module], name)

    def test_no_two_files_draw_from_one_another(self):
        drawn = {"onceround." + name[:-3]: set() for name, _ in parsed()}
        for name, node in nodes(ast.ImportFrom):
            drawn["onceround." + name[:-3]].add(node.module)
        while drawn:
            free = [name for name in drawn if not drawn[name] & set(drawn)]
            self.assertTrue(free, drawn)
            drawn = {name: drawn[name] for name in drawn if name not in free}

    def test_lists_and_dicts_are_only_read(self):
        for name, tree in parsed():
            kept = [node for node in tree.body if isinstance(node, ast.Assign)]
            kept = [node for node in kept if isinstance(node.value, (ast.List, ast.Dict))]
            for node in kept:
                inner = [part for part in ast.walk(node.value) if isinstance(part, (ast.List, ast.Dict))]
                self.assertEqual(inner, [node.value], (name, node.lineno))
            words = [node.targets[0].id for node in kept]
            parent = {part: node for node in ast.walk(tree) for part in ast.iter_child_nodes(node)}
            for node in ast.walk(tree):
                if isinstance(node, ast.Name) and node.id in words and isinstance(node.ctx, ast.Load):
                    self.assertTrue(is_read(node, parent[node]), (name, node.lineno))

    def test_init_binds_nothing(self):
        for name, tree in parsed():
            if name == "__init__.py":
                self.assertTrue(all(is_docstring(node) for node in tree.body))


class Syntax(unittest.TestCase):
    def test_only_allowed_forms(self):
        for name, node in nodes(ast.AST):
            self.assertIsInstance(node, ALLOWED_NODES, (name, getattr(node, "lineno", None)))
            self.assertNotIsInstance(node, BARRED_NODES, name)

    def test_calls_stand_by_themselves(self):
        for name, tree in parsed():
            for node in ast.walk(tree):
                if isinstance(node, ast.Expr) and node not in tree.body[:1]:
                    self.assertIsInstance(node.value, ast.Call, (name, node.lineno))

    def test_constants(self):
        for name, node in nodes(ast.Constant):
            self.assertIn(type(node.value), (int, str, bool, type(None)), (name, node.lineno))

    def test_functions_have_plain_parameters(self):
        for name, node in nodes(ast.FunctionDef, ast.Lambda):
            handed = node.args
            self.assertEqual((handed.vararg, handed.kwarg, handed.kwonlyargs, handed.posonlyargs), (None, None, [], []))
            self.assertTrue(all(is_plain(value) for value in handed.defaults), name)
            self.assertEqual(getattr(node, "decorator_list", []), [], name)
            self.assertTrue(all(part.annotation is None for part in handed.args), name)

    def test_classes_are_plain(self):
        for name, node in nodes(ast.ClassDef):
            self.assertEqual((node.decorator_list, node.keywords), ([], []), name)
            self.assertLessEqual(len(node.bases), 1, name)
            for part in node.body:
                self.assertIsInstance(part, (ast.FunctionDef, ast.Pass), (name, node.name))

    def test_statements(self):
        for name, node in nodes(ast.Assign):
            self.assertEqual(len(node.targets), 1, (name, node.lineno))
        for name, node in nodes(ast.For, ast.While):
            self.assertEqual(node.orelse, [], (name, node.lineno))
        for name, node in nodes(ast.Try):
            self.assertEqual(node.finalbody, [], (name, node.lineno))
            self.assertTrue(all(handler.type is not None for handler in node.handlers), (name, node.lineno))
        for name, node in nodes(ast.ListComp):
            self.assertEqual(len(node.generators), 1, (name, node.lineno))
            self.assertLessEqual(len(node.generators[0].ifs), 1, (name, node.lineno))

    def test_powers_have_a_written_exponent(self):
        for name, node in nodes(ast.BinOp, ast.AugAssign):
            if isinstance(node.op, ast.Pow):
                exponent = getattr(node, "right", None) or node.value
                self.assertIsInstance(exponent, ast.Constant, (name, node.lineno))
                self.assertIn(exponent.value, range(65), (name, node.lineno))

    def test_is_stands_beside_none_true_and_false(self):
        for name, node in nodes(ast.Compare):
            for sign, right in zip(node.ops, node.comparators):
                if isinstance(sign, (ast.Is, ast.IsNot)):
                    self.assertIsInstance(right, ast.Constant, (name, node.lineno))
                    self.assertIn(right.value, (None, True, False), (name, node.lineno))


class Names(unittest.TestCase):
    def test_plain_words(self):
        for name, node in nodes(ast.Name, ast.arg, ast.FunctionDef, ast.ClassDef, ast.Attribute):
            called = [getattr(node, part, None) for part in ("id", "arg", "name", "attr")]
            for word in [word for word in called if word is not None]:
                self.assertTrue(word in ALLOWED_DUNDERS or re.match(r"^[A-Za-z][A-Za-z0-9_]*$", word), (name, word))
                self.assertNotIn(word, NAMES_NOWHERE, name)

    def test_pythons_own_names(self):
        for name, node in nodes(ast.Name):
            if hasattr(builtins, node.id):
                self.assertIn(node.id, ALLOWED_BUILTINS, (name, node.lineno))
                self.assertIsInstance(node.ctx, ast.Load, (name, node.lineno))
        for name, node in nodes(ast.arg):
            self.assertFalse(hasattr(builtins, node.arg), (name, node.arg))
        for name, tree in parsed():
            for word in top_names(tree):
                self.assertFalse(hasattr(builtins, word), (name, word))

    def test_locals_are_not_called_like_an_import_or_a_top_name(self):
        for name, tree in parsed():
            imported = [part.name for node in tree.body if isinstance(node, ast.ImportFrom) for part in node.names]
            for top in tree.body:
                if isinstance(top, (ast.FunctionDef, ast.ClassDef)):
                    for node in ast.walk(top):
                        if isinstance(node, ast.Name) and isinstance(node.ctx, ast.Store):
                            self.assertNotIn(node.id, imported + top_names(tree), (name, node.lineno))
                        if isinstance(node, ast.arg):
                            self.assertNotIn(node.arg, imported + top_names(tree), (name, node.lineno))

    def test_methods(self):
        own = set(ALLOWED_DUNDERS)
        for _, node in nodes(ast.ClassDef):
            own |= {part.name for part in node.body if isinstance(part, ast.FunctionDef)}
        for name, node in nodes(ast.Call):
            if isinstance(node.func, ast.Attribute):
                self.assertIn(node.func.attr, PYTHONS_METHODS | own, (name, node.lineno))

    def test_no_name_is_a_method_and_a_value(self):
        methods = set()
        for _, node in nodes(ast.ClassDef):
            methods |= {part.name for part in node.body if isinstance(part, ast.FunctionDef)}
        kept = {node.attr for _, node in nodes(ast.Attribute) if isinstance(node.ctx, ast.Store)}
        self.assertEqual(methods & kept, set())


class Calls(unittest.TestCase):
    def test_what_is_to_be_walked_is_walked_at_once(self):
        for name, node, parent in with_parents(ast.Call):
            word, method = called(node)
            if word in (VIEWS if method else WALKED_AT_ONCE):
                self.assertTrue(is_walked(node, parent), (name, node.lineno))

    def test_sets_are_not_kept(self):
        for name, node, parent in with_parents(ast.Call, ast.Set):
            if isinstance(node, ast.Set) or called(node) in (("set", False), ("frozenset", False)):
                in_place = called(parent) in (("sorted", False), ("len", False)) and parent.keywords == []
                beside = isinstance(parent, (ast.Compare, ast.BinOp))
                self.assertTrue(in_place or beside, (name, node.lineno))

    def test_keywords_of_pythons_own(self):
        for name, node in nodes(ast.Call):
            word, method = called(node)
            if word in PYTHONS_METHODS if method else hasattr(builtins, str(word)):
                given = {part.arg for part in node.keywords}
                self.assertLessEqual(given, KEYWORDS.get(word, set()), (name, node.lineno))

    def test_pythons_own_are_called_not_handed_on(self):
        for name, node, parent in with_parents(ast.Name):
            if hasattr(builtins, node.id) and not isinstance(getattr(builtins, node.id), type):
                as_key = isinstance(parent, ast.keyword) and parent.arg == "key"
                self.assertTrue(as_key or getattr(parent, "func", None) is node, (name, node.lineno))

    def test_errors_are_taken_by_their_own_names(self):
        for name, node in nodes(ast.ExceptHandler):
            for part in ast.walk(node.type):
                self.assertNotIn(getattr(part, "id", None), ("Exception", "TypeError"), (name, node.lineno))
        for name, node in nodes(ast.Raise):
            self.assertIsInstance(node.exc, ast.Call, (name, node.lineno))


if __name__ == "__main__":
    unittest.main()
