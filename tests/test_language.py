"""The files of the package keep the rules of the language subset that can be checked by a look at each file."""

import ast
import builtins
import pathlib
import re
import textwrap
import unittest

from sharing import shared_changes

ROOT = pathlib.Path(__file__).resolve().parent.parent
PACKAGE = ROOT / "openrules"
FILES = sorted(PACKAGE.rglob("*.py"))
BUILTINS = set(
    "len range enumerate zip min max sum abs sorted reversed int str bool list tuple dict set isinstance ord repr any"
    " all divmod iter next map super property ValueError KeyError StopIteration NotImplemented".split()
)
METHODS = set(
    "append clear copy count endswith extend find get index insert isalnum isalpha isdigit islower isspace isupper"
    " items join keys ljust lower lstrip partition pop remove replace reverse rfind rjust rpartition rsplit rstrip"
    " setdefault split splitlines startswith strip update upper values zfill bit_length add discard".split()
)
BUILTIN_NAMES = set(vars(builtins)) - {"_"}
NO_NAMES = set(
    "register mro elements open input law version_info with_traceback add_note attrgetter breakpoint builtins compile"
    " copyright credits delattr dir eval exec exit gc globals help id importlib license locals methodcaller os quit"
    " type vars sys".split()
)
STATEMENTS = (
    ast.FunctionDef, ast.ClassDef, ast.Return, ast.Delete, ast.Assign, ast.AugAssign, ast.For, ast.While, ast.If,
    ast.With, ast.Match, ast.Raise, ast.Try, ast.Assert, ast.ImportFrom, ast.Expr, ast.Pass, ast.Break, ast.Continue,
)
NO_STARTS = "_wall _pe_ _dcw_ _enum_ _cm_ _twin_re_ _lay_ _law_ _stub_ _sre _WallAttr".split()
NO_PRIVATE = "_cold _tuplegetter _outside _record _written_out _member_names".split()
NO_WORDS = ("typing", "enum", "Enum", "Generic", "Protocol", "ABC", "namedtuple", "dataclass", "overload", "random")

SAMPLE = """\
def same(rows):
    return rows
def inside(rows):
    return same(rows)[0]
def copied(rows):
    return list(rows)
def walk(rows):
    for row in rows:
        yield row
def grow(rows):
    rows.append(1)
def grow_more(by, rows):
    grow(rows)
def read(rows):
    return len(rows)
class Box:
    def __init__(self):
        self.rows = []
        self.many = 0
    def own(self):
        return self.rows
    def take(self):
        self.rows.pop()
def sample(xs, ys, d):
"""
LINE = SAMPLE.count("\n") + 1


def trees():
    return [(path.name, ast.parse(path.read_text(encoding="ascii"))) for path in FILES]


def nodes(kind):
    return [(name, node) for name, tree in trees() for node in ast.walk(tree) if isinstance(node, kind)]


def bound_names(tree):
    """The names that the functions of the file bind: parameters, targets and nested functions."""
    for node in ast.walk(tree):
        if isinstance(node, ast.Name) and isinstance(node.ctx, ast.Store):
            yield node.id
        elif isinstance(node, ast.arg):
            yield node.arg


def top_names(tree):
    """The names that are bound at module level, without those of imports."""
    for node in tree.body:
        if isinstance(node, (ast.FunctionDef, ast.ClassDef)):
            yield node.name
        elif isinstance(node, ast.Assign):
            yield node.targets[0].id


def imports(tree):
    return [node for node in tree.body if isinstance(node, ast.ImportFrom)]


class FilesTest(unittest.TestCase):

    def test_nothing_but_python_files(self):
        found = [path for path in PACKAGE.rglob("*") if path.is_file() and "__pycache__" not in path.parts]
        self.assertEqual(sorted(found), FILES)
        for path in FILES:
            self.assertRegex(path.name, r"^(__init__|__main__|[a-z][a-z0-9_]*)\.py$")

    def test_sizes_and_characters(self):
        for path in FILES:
            lines = path.read_bytes().decode("ascii").split("\n")
            self.assertLessEqual(len(lines), 400, path.name)
            for line in lines:
                self.assertLessEqual(len(line), 120, path.name)
                self.assertRegex(line, r"^([ -~]*[!-~])?$", path.name)

    def test_functions_are_short_and_told_once(self):
        for name, node in nodes(ast.FunctionDef):
            self.assertLessEqual(node.end_lineno - node.lineno + 1, 40, (name, node.name))
        for name, tree in trees():
            told = list(top_names(tree)) + [alias.name for node in imports(tree) for alias in node.names]
            self.assertEqual(len(told), len(set(told)), name)

    def test_imports(self):
        told = {f"openrules.{path.stem}": list(top_names(ast.parse(path.read_text()))) for path in FILES}
        for name, node in nodes((ast.Import, ast.ImportFrom)):
            self.assertIsInstance(node, ast.ImportFrom, name)
            self.assertEqual(node.level, 0, name)
            for alias in node.names:
                self.assertIsNone(alias.asname, name)
                self.assertIn(alias.name, told[node.module], name)

    def test_no_circles_of_imports(self):
        needs = {f"openrules.{path.stem}": {node.module for node in imports(ast.parse(path.read_text()))}
                 for path in FILES}
        while needs:
            ready = [name for name in needs if not needs[name] & set(needs)]
            self.assertTrue(ready, sorted(needs))
            needs = {name: needs[name] for name in needs if name not in ready}


class CodeTest(unittest.TestCase):

    def test_statements(self):
        for name, node in nodes(ast.stmt):
            self.assertIsInstance(node, STATEMENTS, (name, node.lineno))

    def test_module_level(self):
        for name, tree in trees():
            for node in tree.body:
                self.assertIsInstance(node, (ast.Expr, ast.ImportFrom, ast.FunctionDef, ast.ClassDef, ast.Assign), name)
                if isinstance(node, ast.Expr):
                    self.assertIsInstance(node.value, ast.Constant, name)

    def test_expressions(self):
        for name, node in nodes((ast.Div, ast.MatMult, ast.Await, ast.Set, ast.SetComp)):
            self.fail((name, node))
        for name, node in nodes(ast.Constant):
            self.assertNotIsInstance(node.value, (float, complex, bytes), (name, node.lineno))
            if isinstance(node.value, str):
                self.assertNotIn("%", node.value, (name, node.lineno))
        for name, node in nodes(ast.Compare):
            for sign, side in zip(node.ops, node.comparators):
                if isinstance(sign, (ast.Is, ast.IsNot)):
                    self.assertIsInstance(side, ast.Constant, (name, node.lineno))
        for name, node in nodes(ast.BinOp):
            if isinstance(node.op, ast.Pow):
                self.assertIsInstance(node.right, ast.Constant, (name, node.lineno))

    def test_names(self):
        for name, tree in trees():
            files_own = {alias.asname or alias.name for node in imports(tree) for alias in node.names}
            files_own |= {node.name for node in tree.body if isinstance(node, ast.ClassDef)}
            told = list(bound_names(tree)) + list(top_names(tree))
            for word in told:
                self.assertRegex(word, r"^(_|_?[A-Za-z][A-Za-z0-9_]*)$", name)
                self.assertNotIn(word, NO_NAMES, name)
                self.assertNotIn(word, BUILTIN_NAMES, name)
            for word in bound_names(tree):
                self.assertNotIn(word, files_own, name)

    def test_private_names(self):
        for name, tree in trees():
            words = list(bound_names(tree))
            words += [node.name for node in ast.walk(tree) if isinstance(node, ast.FunctionDef)]
            words += [node.attr for node in ast.walk(tree) if isinstance(node, ast.Attribute)]
            for word in words:
                self.assertFalse(word.startswith(tuple(NO_STARTS)), (name, word))
                self.assertNotIn(word.rstrip("_0123456789"), NO_PRIVATE, name)

    def test_what_generator_expressions_go_over(self):
        """They go over plain values; zip and its kin stand in comprehensions of lists."""
        for name, node in nodes(ast.GeneratorExp):
            for part in node.generators:
                if isinstance(part.iter, ast.Call) and isinstance(part.iter.func, ast.Name):
                    self.assertNotIn(part.iter.func.id, ("zip", "enumerate", "range", "reversed"), (name, node.lineno))

    def test_builtins(self):
        for name, node in nodes(ast.Name):
            if isinstance(node.ctx, ast.Load):
                self.assertNotEqual(node.id, "_", (name, node.lineno))
                if node.id in BUILTIN_NAMES:
                    self.assertIn(node.id, BUILTINS, (name, node.lineno))

    def test_methods(self):
        own = {node.name for _, node in nodes(ast.FunctionDef)}
        for name, node in nodes(ast.Call):
            if isinstance(node.func, ast.Attribute):
                self.assertIn(node.func.attr, METHODS | own, (name, node.lineno))
                if node.func.attr in METHODS - own:
                    self.assertEqual(node.keywords, [], (name, node.lineno))

    def test_decorators_and_errors(self):
        for name, node in nodes((ast.FunctionDef, ast.ClassDef)):
            for decorator in node.decorator_list:
                self.assertEqual(getattr(decorator, "id", None), "property", (name, node.name))
        for name, node in nodes(ast.Raise):
            if node.exc is not None:
                self.assertIsInstance(node.exc, ast.Call, (name, node.lineno))
                self.assertIsInstance(node.exc.func, ast.Name, (name, node.lineno))

    def test_generators_are_used_at_once(self):
        at_once = ("list", "tuple", "dict", "sorted", "sum", "min", "max", "any", "all")
        used = [node.args[0] for _, node in nodes(ast.Call)
                if node.args and isinstance(node.func, ast.Name) and node.func.id in at_once]
        wanted = [ast.dump(node) for _, node in nodes(ast.GeneratorExp)]
        self.assertEqual(sorted(wanted), sorted(ast.dump(node) for node in used if isinstance(node, ast.GeneratorExp)))

    def test_calls_of_generators_are_iterated_at_once(self):
        own = {node.name for _, node in nodes(ast.FunctionDef)
               if any(isinstance(inner, (ast.Yield, ast.YieldFrom)) for inner in ast.walk(node))}
        calls = [node for _, node in nodes(ast.Call) if isinstance(node.func, ast.Name)]
        wanted = [ast.dump(node) for node in calls if node.func.id in own]
        loops = [node.iter for _, node in nodes((ast.For, ast.comprehension))]
        whole = [node.args[0] for node in calls if node.func.id in ("list", "tuple") and node.args]
        found = [ast.dump(node) for node in loops + whole if isinstance(node, ast.Call)]
        for call in wanted:
            self.assertIn(call, found)
        loaded = [node.id for _, node in nodes(ast.Name) if isinstance(node.ctx, ast.Load)]
        for word in own:
            self.assertEqual(loaded.count(word), len([node for node in calls if node.func.id == word]))

    def test_attributes_properties_and_methods(self):
        """No attribute has the name of a property or a method, and none of them one of a builtin value."""
        assigned = {node.attr for _, node in nodes(ast.Attribute) if isinstance(node.ctx, ast.Store)}
        inside = [node for _, found in nodes(ast.ClassDef) for node in found.body if isinstance(node, ast.FunctionDef)]
        own = {node.name for node in inside if not node.name.startswith("__")}
        self.assertEqual(assigned & own, set())
        builtin = {name for kind in (str, bytes, int, list, dict, set, tuple) for name in dir(kind)}
        self.assertEqual((assigned | own) & builtin, set())
        for name, node in nodes(ast.Attribute):
            if isinstance(node.ctx, ast.Store):
                self.assertEqual(getattr(node.value, "id", None), "self", (name, node.lineno))

    def test_double_underscore_methods(self):
        for name, found in nodes(ast.ClassDef):
            for node in found.body:
                if isinstance(node, ast.FunctionDef) and node.name.startswith("__"):
                    self.assertIn(node.name, ("__init__", "__len__", "__contains__", "__iter__"), name)

    def test_stars_and_handlers(self):
        for name, node in nodes(ast.Starred):
            self.assertIsInstance(node.value, ast.Name, (name, node.lineno))
        for name, node in nodes(ast.ExceptHandler):
            self.assertIn(node.type.id, ("TooLarge", "TacticFailed"), (name, node.lineno))
        for name, node in nodes(ast.Raise):
            self.assertTrue(node.exc is None or isinstance(node.exc, ast.Call), (name, node.lineno))

    def test_lambdas_of_keys(self):
        for name, node in nodes(ast.keyword):
            if node.arg == "key" and isinstance(node.value, ast.Lambda):
                self.assertIsInstance(node.value.body, ast.Subscript, (name, node.value.lineno))
                self.assertIsInstance(node.value.body.value, ast.Name, (name, node.value.lineno))
                self.assertIsInstance(node.value.body.slice, ast.Constant, (name, node.value.lineno))

    def test_tables_of_a_module_are_not_passed_on(self):
        for name, tree in trees():
            tables = {node.targets[0].id for node in tree.body
                      if isinstance(node, ast.Assign) and isinstance(node.value, (ast.Dict, ast.List))}
            for node in ast.walk(tree):
                if isinstance(node, ast.Call):
                    for argument in node.args:
                        self.assertNotIn(getattr(argument, "id", None), tables, (name, node.lineno))

    def test_words(self):
        for path in FILES:
            text = path.read_text()
            for word in NO_WORDS:
                self.assertIsNone(re.search(rf"\b{word}\b", text), (path.name, word))


class SharingTest(unittest.TestCase):
    """What a loop goes over is not changed in it, and `extend` and `update` do not get what they change."""

    def faults(self, text):
        return [(line, word) for _, line, word in shared_changes({"sample": textwrap.dedent(text)})]

    def test_package(self):
        self.assertEqual(shared_changes({path.name: path.read_text() for path in FILES}), [])

    def test_update_with_an_item_of_what_it_changes(self):
        self.assertEqual(self.faults("""\
            def known_by(summaries):
                known = {}
                for name, imports in summaries:
                    known[name] = {}
                    for imported in imports:
                        known[name].update(known[imported])
                return known
            """), [(6, "gift")])

    def test_a_loop_over_what_grows_by_another_name(self):
        self.assertEqual(self.faults("""\
            def written(waiting, done):
                while waiting:
                    kept = []
                    for place in waiting:
                        if place not in done:
                            kept.append(place)
                    waiting = kept
            """), [(6, "loop")])

    def test_rows_that_hand_out_what_they_change(self):
        for row in (
            "xs.extend(xs)", "xs += xs", "d |= d", "d.update(d)", "xs.extend(reversed(xs))", "xs.extend(ys or xs)",
            "xs.extend(ys if d else xs)", "xs[0].extend(xs[1])", "xs += zip(xs, ys)", "xs.extend(d.get(1, xs))",
            "xs.extend(x for x in xs)", "xs.rows.extend(xs.rows)", "xs.extend(same(xs))", "xs.extend(inside(xs))",
            "xs.extend(walk(xs))", "xs.extend(xs.own())", "zs = xs; xs.extend(zs)", "d[1] = xs; xs.extend(d[1])",
            "(zs := xs).extend(xs)", "ys.append(xs); xs.extend(ys[0])", "zs, k = xs, 1; xs.extend(zs)",
            "zs = xs; zs.rows.extend(xs.rows)", "d.rows = xs; xs.extend(d.rows)", "d = xs.rows; d.extend(xs.own())",
        ):
            with self.subTest(row):
                self.assertEqual(self.faults(SAMPLE + f"    {row}\n"), [(LINE, "gift")])
        for row in (
            "xs.extend(list(xs))", "xs += ys", "d.update(dict(d))", "xs.extend(xs[:])", "xs.extend([x for x in xs])",
            "xs += [1]", "xs[0].extend(list(xs[1]))", "xs.extend(copied(xs))", "xs = xs + xs", "ys.extend(xs.own())",
            "xs.extend(list(walk(xs)))",
        ):
            with self.subTest(row):
                self.assertEqual(self.faults(SAMPLE + f"    {row}\n"), [])

    def test_loops_that_change_what_they_go_over(self):
        for head in (
            "x in xs", "k, x in enumerate(xs)", "x, y in zip(ys, xs)", "x in reversed(xs)", "x in ys or xs",
            "x in (ys if d else xs)", "x in same(xs)", "x in walk(xs)", "x in list(walk(xs))", "x in (y for y in xs)",
        ):
            for row in (
                "xs.append(1)", "xs[0] = 1", "xs.pop()", "del xs[0]", "xs += [1]", "xs.sort()", "xs[0].append(1)",
                "grow(xs)", "grow_more(1, rows=xs)", "ys, xs[0] = 1, 2", "k = [xs.pop() for y in d]",
            ):
                with self.subTest(head, row=row):
                    self.assertIn((LINE + 1, "loop"), self.faults(SAMPLE + f"    for {head}:\n        {row}\n"))
        for head, row in (
            ("x in d.items()", "d[1] = 2"), ("x in d", "d.setdefault(1, 2)"), ("x in d.values()", "del d[1]"),
            ("x in xs.rows", "xs.rows.append(1)"), ("x in xs", "xs.rows.append(1)"), ("x in xs.rows", "xs.take()"),
            ("x in xs.own()", "xs.take()"), ("x in xs[0]", "xs[1].append(1)"),
            ("x in xs.rows", "zs = xs; zs.rows.pop()"),
        ):
            with self.subTest(head, row=row):
                self.assertEqual(self.faults(SAMPLE + f"    for {head}:\n        {row}\n"), [(LINE + 1, "loop")])

    def test_comprehensions_that_change_what_they_go_over(self):
        for row in ("k = [xs.pop() for x in xs]", "k = {x: grow(xs) for y in d for x in xs}"):
            with self.subTest(row):
                self.assertEqual(self.faults(SAMPLE + f"    {row}\n"), [(LINE, "loop")])

    def test_loops_that_change_something_else(self):
        for head, row in (
            ("x in list(xs)", "xs.append(1)"), ("x in xs", "ys.append(x)"), ("x in xs[:]", "xs.append(1)"),
            ("x in xs", "x.append(1)"), ("x in xs", "read(xs)"), ("x in xs", "k = xs[0]"),
            ("x in sorted(d)", "del d[x]"), ("x in xs.rows", "xs.many = 1"), ("x in copied(xs)", "grow(xs)"),
            ("x in d", "xs = [y for y in d]"),
        ):
            with self.subTest(head, row=row):
                self.assertEqual(self.faults(SAMPLE + f"    for {head}:\n        {row}\n"), [])


if __name__ == "__main__":
    unittest.main()
