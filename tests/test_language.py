"""The files of the package keep the rules of the language subset that can be checked by a look at each file."""

import ast
import builtins
import pathlib
import re
import unittest

ROOT = pathlib.Path(__file__).resolve().parent.parent
PACKAGE = ROOT / "openrules"
FILES = sorted(PACKAGE.rglob("*.py"))
BUILTINS = set(
    "len range enumerate zip min max sum abs sorted reversed int str bool list tuple dict set isinstance ord repr any"
    " all divmod iter next map super property ValueError KeyError StopIteration NotImplemented".split()
)
METHODS = set(
    "append clear copy count endswith extend find get index insert isalnum isalpha isdigit islower isspace isupper"
    " items join keys ljust lower lstrip partition pop remove replace reverse rfind rjust rpartition rsplit rstrip"
    " setdefault split splitlines startswith strip update upper values zfill bit_length add discard".split()
)
BUILTIN_NAMES = set(vars(builtins)) - {"_"}
NO_NAMES = set(
    "register mro elements open input law version_info with_traceback add_note attrgetter breakpoint builtins compile"
    " copyright credits delattr dir eval exec exit gc globals help id importlib license locals methodcaller os quit"
    " type vars sys".split()
)
STATEMENTS = (
    ast.FunctionDef, ast.ClassDef, ast.Return, ast.Delete, ast.Assign, ast.AugAssign, ast.For, ast.While, ast.If,
    ast.With, ast.Match, ast.Raise, ast.Try, ast.Assert, ast.ImportFrom, ast.Expr, ast.Pass, ast.Break, ast.Continue,
)
NO_STARTS = "_wall _pe_ _dcw_ _enum_ _cm_ _twin_re_ _lay_ _law_ _stub_ _sre _WallAttr".split()
NO_PRIVATE = "_cold _tuplegetter _outside _record _written_out _member_names".split()
NO_WORDS = ("typing", "enum", "Enum", "Generic", "Protocol", "ABC", "namedtuple", "dataclass", "overload", "random")


def trees():
    return [(path.name, ast.parse(path.read_text(encoding="ascii"))) for path in FILES]


def nodes(kind):
    return [(name, node) for name, tree in trees() for node in ast.walk(tree) if isinstance(node, kind)]


def bound_names(tree):
    """The names that the functions of the file bind: parameters, targets and nested functions."""
    for node in ast.walk(tree):
        if isinstance(node, ast.Name) and isinstance(node.ctx, ast.Store):
            yield node.id
        elif isinstance(node, ast.arg):
            yield node.arg


def top_names(tree):
    """The names that are bound at module level, without those of imports."""
    for node in tree.body:
        if isinstance(node, (ast.FunctionDef, ast.ClassDef)):
            yield node.name
        elif isinstance(node, ast.Assign):
            yield node.targets[0].id


def imports(tree):
    return [node for node in tree.body if isinstance(node, ast.ImportFrom)]


class FilesTest(unittest.TestCase):

    def test_nothing_but_python_files(self):
        found = [path for path in PACKAGE.rglob("*") if path.is_file() and "__pycache__" not in path.parts]
        self.assertEqual(sorted(found), FILES)
        for path in FILES:
            self.assertRegex(path.name, r"^(__init__|__main__|[a-z][a-z0-9_]*)\.py$")

    def test_sizes_and_characters(self):
        for path in FILES:
            lines = path.read_bytes().decode("ascii").split("\n")
            self.assertLessEqual(len(lines), 400, path.name)
            for line in lines:
                self.assertLessEqual(len(line), 120, path.name)
                self.assertRegex(line, r"^([ -~]*[!-~])?$", path.name)

    def test_functions_are_short_and_told_once(self):
        for name, node in nodes(ast.FunctionDef):
            self.assertLessEqual(node.end_lineno - node.lineno + 1, 40, (name, node.name))
        for name, tree in trees():
            told = list(top_names(tree)) + [alias.name for node in imports(tree) for alias in node.names]
            self.assertEqual(len(told), len(set(told)), name)

    def test_imports(self):
        told = {f"openrules.{path.stem}": list(top_names(ast.parse(path.read_text()))) for path in FILES}
        for name, node in nodes((ast.Import, ast.ImportFrom)):
            self.assertIsInstance(node, ast.ImportFrom, name)
            self.assertEqual(node.level, 0, name)
            for alias in node.names:
                self.assertIsNone(alias.asname, name)
                self.assertIn(alias.name, told[node.module], name)

    def test_no_circles_of_imports(self):
        needs = {f"openrules.{path.stem}": {node.module for node in imports(ast.parse(path.read_text()))}
                 for path in FILES}
        while needs:
            ready = [name for name in needs if not needs[name] & set(needs)]
            self.assertTrue(ready, sorted(needs))
            needs = {name: needs[name] for name in needs if name not in ready}


class CodeTest(unittest.TestCase):

    def test_statements(self):
        for name, node in nodes(ast.stmt):
            self.assertIsInstance(node, STATEMENTS, (name, node.lineno))

    def test_module_level(self):
        for name, tree in trees():
            for node in tree.body:
                self.assertIsInstance(node, (ast.Expr, ast.ImportFrom, ast.FunctionDef, ast.ClassDef, ast.Assign), name)
                if isinstance(node, ast.Expr):
                    self.assertIsInstance(node.value, ast.Constant, name)

    def test_expressions(self):
        for name, node in nodes((ast.Div, ast.MatMult, ast.Await, ast.Set, ast.SetComp)):
            self.fail((name, node))
        for name, node in nodes(ast.Constant):
            self.assertNotIsInstance(node.value, (float, complex, bytes), (name, node.lineno))
            if isinstance(node.value, str):
                self.assertNotIn("%", node.value, (name, node.lineno))
        for name, node in nodes(ast.Compare):
            for sign, side in zip(node.ops, node.comparators):
                if isinstance(sign, (ast.Is, ast.IsNot)):
                    self.assertIsInstance(side, ast.Constant, (name, node.lineno))
        for name, node in nodes(ast.BinOp):
            if isinstance(node.op, ast.Pow):
                self.assertIsInstance(node.right, ast.Constant, (name, node.lineno))

    def test_names(self):
        for name, tree in trees():
            files_own = {alias.asname or alias.name for node in imports(tree) for alias in node.names}
            files_own |= {node.name for node in tree.body if isinstance(node, ast.ClassDef)}
            told = list(bound_names(tree)) + list(top_names(tree))
            for word in told:
                self.assertRegex(word, r"^(_|_?[A-Za-z][A-Za-z0-9_]*)$", name)
                self.assertNotIn(word, NO_NAMES, name)
                self.assertNotIn(word, BUILTIN_NAMES, name)
            for word in bound_names(tree):
                self.assertNotIn(word, files_own, name)

    def test_private_names(self):
        for name, tree in trees():
            words = list(bound_names(tree))
            words += [node.name for node in ast.walk(tree) if isinstance(node, ast.FunctionDef)]
            words += [node.attr for node in ast.walk(tree) if isinstance(node, ast.Attribute)]
            for word in words:
                self.assertFalse(word.startswith(tuple(NO_STARTS)), (name, word))
                self.assertNotIn(word.rstrip("_0123456789"), NO_PRIVATE, name)

    def test_what_generator_expressions_go_over(self):
        """They go over plain values; zip and its kin stand in comprehensions of lists."""
        for name, node in nodes(ast.GeneratorExp):
            for part in node.generators:
                if isinstance(part.iter, ast.Call) and isinstance(part.iter.func, ast.Name):
                    self.assertNotIn(part.iter.func.id, ("zip", "enumerate", "range", "reversed"), (name, node.lineno))

    def test_builtins(self):
        for name, node in nodes(ast.Name):
            if isinstance(node.ctx, ast.Load):
                self.assertNotEqual(node.id, "_", (name, node.lineno))
                if node.id in BUILTIN_NAMES:
                    self.assertIn(node.id, BUILTINS, (name, node.lineno))

    def test_methods(self):
        own = {node.name for _, node in nodes(ast.FunctionDef)}
        for name, node in nodes(ast.Call):
            if isinstance(node.func, ast.Attribute):
                self.assertIn(node.func.attr, METHODS | own, (name, node.lineno))
                if node.func.attr in METHODS - own:
                    self.assertEqual(node.keywords, [], (name, node.lineno))

    def test_decorators_and_errors(self):
        for name, node in nodes((ast.FunctionDef, ast.ClassDef)):
            for decorator in node.decorator_list:
                self.assertEqual(getattr(decorator, "id", None), "property", (name, node.name))
        for name, node in nodes(ast.Raise):
            if node.exc is not None:
                self.assertIsInstance(node.exc, ast.Call, (name, node.lineno))
                self.assertIsInstance(node.exc.func, ast.Name, (name, node.lineno))

    def test_generators_are_used_at_once(self):
        at_once = ("list", "tuple", "dict", "sorted", "sum", "min", "max", "any", "all")
        used = [node.args[0] for _, node in nodes(ast.Call)
                if node.args and isinstance(node.func, ast.Name) and node.func.id in at_once]
        wanted = [ast.dump(node) for _, node in nodes(ast.GeneratorExp)]
        self.assertEqual(sorted(wanted), sorted(ast.dump(node) for node in used if isinstance(node, ast.GeneratorExp)))

    def test_calls_of_generators_are_iterated_at_once(self):
        own = {node.name for _, node in nodes(ast.FunctionDef)
               if any(isinstance(inner, (ast.Yield, ast.YieldFrom)) for inner in ast.walk(node))}
        calls = [node for _, node in nodes(ast.Call) if isinstance(node.func, ast.Name)]
        wanted = [ast.dump(node) for node in calls if node.func.id in own]
        loops = [node.iter for _, node in nodes((ast.For, ast.comprehension))]
        whole = [node.args[0] for node in calls if node.func.id in ("list", "tuple") and node.args]
        found = [ast.dump(node) for node in loops + whole if isinstance(node, ast.Call)]
        for call in wanted:
            self.assertIn(call, found)
        loaded = [node.id for _, node in nodes(ast.Name) if isinstance(node.ctx, ast.Load)]
        for word in own:
            self.assertEqual(loaded.count(word), len([node for node in calls if node.func.id == word]))

    def test_attributes_properties_and_methods(self):
        """No attribute has the name of a property or a method, and none of them one of a builtin value."""
        assigned = {node.attr for _, node in nodes(ast.Attribute) if isinstance(node.ctx, ast.Store)}
        inside = [node for _, found in nodes(ast.ClassDef) for node in found.body if isinstance(node, ast.FunctionDef)]
        own = {node.name for node in inside if not node.name.startswith("__")}
        self.assertEqual(assigned & own, set())
        builtin = {name for kind in (str, bytes, int, list, dict, set, tuple) for name in dir(kind)}
        self.assertEqual((assigned | own) & builtin, set())
        for name, node in nodes(ast.Attribute):
            if isinstance(node.ctx, ast.Store):
                self.assertEqual(getattr(node.value, "id", None), "self", (name, node.lineno))

    def test_double_underscore_methods(self):
        for name, found in nodes(ast.ClassDef):
            for node in found.body:
                if isinstance(node, ast.FunctionDef) and node.name.startswith("__"):
                    self.assertIn(node.name, ("__init__", "__len__", "__contains__", "__iter__"), name)

    def test_stars_and_handlers(self):
        for name, node in nodes(ast.Starred):
            self.assertIsInstance(node.value, ast.Name, (name, node.lineno))
        for name, node in nodes(ast.ExceptHandler):
            self.assertIn(node.type.id, ("TooLarge", "TacticFailed"), (name, node.lineno))
        for name, node in nodes(ast.Raise):
            self.assertTrue(node.exc is None or isinstance(node.exc, ast.Call), (name, node.lineno))

    def test_lambdas_of_keys(self):
        for name, node in nodes(ast.keyword):
            if node.arg == "key" and isinstance(node.value, ast.Lambda):
                self.assertIsInstance(node.value.body, ast.Subscript, (name, node.value.lineno))
                self.assertIsInstance(node.value.body.value, ast.Name, (name, node.value.lineno))
                self.assertIsInstance(node.value.body.slice, ast.Constant, (name, node.value.lineno))

    def test_tables_of_a_module_are_not_passed_on(self):
        for name, tree in trees():
            tables = {node.targets[0].id for node in tree.body
                      if isinstance(node, ast.Assign) and isinstance(node.value, (ast.Dict, ast.List))}
            for node in ast.walk(tree):
                if isinstance(node, ast.Call):
                    for argument in node.args:
                        self.assertNotIn(getattr(argument, "id", None), tables, (name, node.lineno))

    def test_words(self):
        for path in FILES:
            text = path.read_text()
            for word in NO_WORDS:
                self.assertIsNone(re.search(rf"\b{word}\b", text), (path.name, word))


if __name__ == "__main__":
    unittest.main()
