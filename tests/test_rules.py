"""Rules of the language that the package's files are written in, as far as a program can see them."""

import ast
import builtins
import io
import keyword
import pathlib
import re
import tokenize
import unittest

PACKAGE = pathlib.Path(__file__).resolve().parent.parent / "livestead"
FILES = sorted(path for path in PACKAGE.iterdir() if path.name != "__pycache__")
TREES = {path.stem: ast.parse(path.read_text()) for path in FILES}

# The tests of the examples leave a `_` among the builtins.
BUILTINS = set(dir(builtins)) - {"__doc__", "__name__", "_"}
ALLOWED = set(
    "len range enumerate zip min max sum abs sorted reversed int str bool list tuple dict set "
    "isinstance ord repr any all divmod KeyError ValueError super None True False".split())
BARRED = set(
    "register mro elements open input law version_info with_traceback add_note attrgetter "
    "breakpoint compile delattr dir eval exec exit gc globals help id importlib license locals "
    "methodcaller os quit setattr super type vars sys iter next _cold _tuplegetter _outside _record "
    "_written_out _member_names".split())
WORDS = re.compile(
    r"\b(typing|typing_extensions|enum|Enum|IntEnum|StrEnum|Flag|IntFlag|Generic|Protocol|ABC|ABCMeta"
    r"|namedtuple|NamedTuple|TypedDict|TYPE_CHECKING|abstractmethod|_wall|_WallAttr)\b"
    r"|dataclass|overload|contextmanager|_wall")
METHODS = set(
    "append clear copy count endswith extend find get index insert isalnum isalpha isdigit islower "
    "isspace isupper items join keys ljust lower lstrip partition pop remove replace reverse rfind "
    "rjust rpartition rsplit rstrip setdefault split splitlines startswith strip update upper values "
    "zfill bit_length add discard".split())
VALUES = (0, "", [], {}, set(), b"", (), None, True)
TAKEN = {name for value in VALUES for name in dir(value)}
NOT_ATTRIBUTES = TAKEN - {"count", "index", "title", "find", "get", "join", "lower", "upper", "split",
                          "strip", "copy", "add"}


def nodes(*kinds):
    """All nodes of some kinds, each with the name of its file."""
    for name, tree in TREES.items():
        for node in ast.walk(tree):
            if isinstance(node, kinds):
                yield name, node


def bound_names(tree):
    """The names that functions, classes, parameters, imports and assignments bind."""
    for node in ast.walk(tree):
        if isinstance(node, (ast.FunctionDef, ast.ClassDef)):
            yield node.name
        elif isinstance(node, ast.arg):
            yield node.arg
        elif isinstance(node, ast.alias):
            yield node.asname or node.name
        elif isinstance(node, ast.Name) and isinstance(node.ctx, ast.Store):
            yield node.id
        elif isinstance(node, ast.ExceptHandler) and node.name:
            yield node.name


def top_names(tree):
    names = []
    for node in tree.body:
        if isinstance(node, (ast.FunctionDef, ast.ClassDef)):
            names.append(node.name)
        elif isinstance(node, ast.Assign):
            names.append(node.targets[0].id)
        elif isinstance(node, ast.ImportFrom):
            names.extend(alias.name for alias in node.names)
    return names


OWN_METHODS = {node.name for _, tree in nodes(ast.ClassDef) for node in tree.body
               if isinstance(node, ast.FunctionDef)}


def attributes(tree):
    return {node.attr for node in ast.walk(tree)
            if isinstance(node, ast.Attribute) and isinstance(node.ctx, ast.Store)}


class Files(unittest.TestCase):
    def test_files(self):
        self.assertIn("__init__.py", [path.name for path in FILES])
        for path in FILES:
            self.assertEqual(path.suffix, ".py", path)
            self.assertNotIn(path.stem, BUILTINS)
            self.assertRegex(path.stem, r"\A[a-z_]+\Z")

    def test_characters_and_sizes(self):
        for path in FILES:
            lines = path.read_bytes().decode("ascii").split("\n")
            self.assertLess(len(lines), 400, path)
            for line in lines:
                self.assertLessEqual(len(line), 120, path)
                self.assertTrue(all(" " <= character <= "~" for character in line), path)

    def test_functions_are_short(self):
        for file, node in nodes(ast.FunctionDef):
            self.assertLessEqual(node.end_lineno - node.lineno + 1, 40, (file, node.name))
            self.assertEqual(node.decorator_list, [], (file, node.name))

    def test_strings(self):
        for file, node in nodes(ast.Constant):
            if isinstance(node.value, str):
                self.assertNotIn("%", node.value, file)
        for path in FILES:
            for token in tokenize.generate_tokens(io.StringIO(path.read_text()).readline):
                if token.type == tokenize.STRING:
                    self.assertNotRegex(token.string.replace("\\\\", ""), r"\\[^nt'\"]", path)

    def test_words(self):
        for path in FILES:
            kept = []
            text = path.read_text()
            for token in tokenize.generate_tokens(io.StringIO(text).readline):
                docstring = token.type == tokenize.STRING and token.string.startswith('"""')
                if token.type != tokenize.COMMENT and not docstring:
                    kept.append(token.string)
            self.assertIsNone(WORDS.search(" ".join(kept)), path)


class Imports(unittest.TestCase):
    def test_each_import_names_the_file_that_defines(self):
        for file, node in nodes(ast.Import, ast.ImportFrom):
            self.assertIsInstance(node, ast.ImportFrom, file)
            self.assertRegex(node.module, r"\Alivestead\.[a-z_]+\Z", file)
            source = TREES[node.module.split(".")[1]]
            own = [name for part in source.body if not isinstance(part, ast.ImportFrom)
                   for name in top_names(ast.Module([part], []))]
            for alias in node.names:
                self.assertIsNone(alias.asname)
                self.assertIn(alias.name, own, file)

    def test_no_two_files_import_from_each_other(self):
        ahead = {}
        for file, node in nodes(ast.ImportFrom):
            ahead.setdefault(file, set()).add(node.module.split(".")[1])
        for start in ahead:
            seen, waiting = set(), sorted(ahead[start])
            while waiting:
                file = waiting.pop()
                if file not in seen:
                    seen.add(file)
                    waiting.extend(ahead.get(file, ()))
            self.assertNotIn(start, seen)

    def test_each_import_is_used(self):
        for file, tree in TREES.items():
            used = {node.id for node in ast.walk(tree) if isinstance(node, ast.Name)}
            for node in tree.body:
                if isinstance(node, ast.ImportFrom):
                    self.assertEqual({alias.name for alias in node.names} - used, set(), file)


class Names(unittest.TestCase):
    def test_module_level(self):
        for file, tree in TREES.items():
            self.assertEqual(len(top_names(tree)), len(set(top_names(tree))), file)
            for node in tree.body:
                self.assertIsInstance(node, (ast.Expr, ast.ImportFrom, ast.FunctionDef, ast.ClassDef,
                                             ast.Assign), file)
                if isinstance(node, ast.Assign):
                    self.assertNotIsInstance(node.value, (ast.Call, ast.ListComp), file)

    def test_builtins(self):
        for file, node in nodes(ast.Name):
            if node.id in BUILTINS:
                self.assertIn(node.id, ALLOWED, (file, node.lineno))
        for file, tree in TREES.items():
            for name in bound_names(tree):
                if name not in OWN_METHODS:
                    self.assertNotIn(name, BUILTINS, file)

    def test_barred_names(self):
        for file, tree in TREES.items():
            for name in bound_names(tree):
                self.assertNotIn(name, BARRED, file)
                self.assertFalse(keyword.issoftkeyword(name) and name != "_", (file, name))
                if name.startswith("__"):
                    self.assertIn(name, ("__init__",), file)

    def test_no_local_name_is_an_import_or_a_class(self):
        for file, tree in TREES.items():
            top = [node for node in tree.body if isinstance(node, (ast.ImportFrom, ast.ClassDef))]
            taken = set(top_names(ast.Module(top, [])))
            for node in ast.walk(tree):
                if isinstance(node, ast.FunctionDef):
                    inner = set(bound_names(ast.Module([node.args] + node.body, [])))
                    self.assertEqual(inner & taken, set(), (file, node.name))

    def test_methods_and_attributes(self):
        for file, node in nodes(ast.ClassDef):
            methods = [part.name for part in node.body if isinstance(part, ast.FunctionDef)]
            self.assertEqual(len(methods), len(set(methods)), (file, node.name))
            self.assertEqual(set(methods) & attributes(node), set(), (file, node.name))
            for name in set(methods) - {"__init__"}:
                self.assertTrue(name not in TAKEN or name in METHODS, (file, name))
        for file, tree in TREES.items():
            self.assertEqual(attributes(tree) & NOT_ATTRIBUTES, set(), file)

    def test_methods_of_builtin_values(self):
        for file, node in nodes(ast.Call):
            if isinstance(node.func, ast.Attribute):
                self.assertIn(node.func.attr, METHODS | OWN_METHODS, (file, node.lineno))

    def test_attributes_that_are_read_are_assigned(self):
        stored = set().union(*[attributes(tree) for tree in TREES.values()])
        for file, node in nodes(ast.Attribute):
            self.assertIn(node.attr, stored | OWN_METHODS | METHODS, (file, node.lineno))


class Statements(unittest.TestCase):
    def test_no_statement_and_no_sign_of_another_language(self):
        for file, node in nodes(ast.Global, ast.AsyncFunctionDef, ast.Div, ast.Yield, ast.Lambda,
                                ast.GeneratorExp, ast.NamedExpr, ast.AnnAssign, ast.Import):
            self.fail((file, type(node).__name__, getattr(node, "lineno", 0)))
        for file, node in nodes(ast.Constant):
            self.assertNotIsInstance(node.value, (float, complex, bytes), file)

    def test_is_stands_beside_constants(self):
        for file, node in nodes(ast.Compare):
            for sign, right in zip(node.ops, node.comparators):
                if isinstance(sign, (ast.Is, ast.IsNot)):
                    self.assertIsInstance(right, ast.Constant, (file, node.lineno))
                    self.assertIn(repr(right.value), ("None", "True", "False"))

    def test_handlers_name_own_errors(self):
        errors = {name for name in top_names(TREES["errors"])} | {"Failed", "Given", "TooLong"}
        for file, node in nodes(ast.ExceptHandler):
            self.assertIn(node.type.id, errors, file)

    def test_finally_only_assigns(self):
        for file, node in nodes(ast.Try):
            for part in node.finalbody:
                self.assertIsInstance(part, ast.Assign, (file, part.lineno))
                self.assertIsInstance(part.targets[0], (ast.Name, ast.Attribute), (file, part.lineno))
                self.assertIsInstance(part.value, (ast.Name, ast.Attribute, ast.Constant), (file, part.lineno))

    def test_errors_are_created_on_the_spot(self):
        for file, node in nodes(ast.Raise):
            if node.exc is not None:
                self.assertIsInstance(node.exc, ast.Call, (file, node.lineno))
                self.assertIsInstance(node.exc.func, ast.Name, (file, node.lineno))

    def test_no_loop_changes_what_it_goes_over(self):
        changing = {"append", "pop", "extend", "insert", "remove", "clear", "update", "setdefault"}
        for file, loop in nodes(ast.For):
            gone_over = {ast.unparse(node) for node in ast.walk(loop.iter)
                         if isinstance(node, (ast.Name, ast.Attribute))}
            for node in [part for row in loop.body for part in ast.walk(row)]:
                if isinstance(node, ast.Call) and isinstance(node.func, ast.Attribute):
                    if node.func.attr in changing:
                        self.assertNotIn(ast.unparse(node.func.value), gone_over, (file, node.lineno))
                if isinstance(node, ast.Subscript) and not isinstance(node.ctx, ast.Load):
                    if ast.unparse(loop.iter) != f"range(len({ast.unparse(node.value)}))":
                        self.assertNotIn(ast.unparse(node.value), gone_over, (file, node.lineno))

    def test_sets_are_not_iterated(self):
        for file, node in nodes(ast.For, ast.comprehension):
            self.assertNotIsInstance(node.iter, (ast.Set, ast.SetComp), file)
            if isinstance(node.iter, ast.Call) and isinstance(node.iter.func, ast.Name):
                self.assertNotEqual(node.iter.func.id, "set", file)


if __name__ == "__main__":
    unittest.main()
