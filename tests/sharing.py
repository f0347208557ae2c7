"""Rows that change a list or a dict while a loop goes over it, or that hand it to its own `extend` or `update`.

What is looked at is a dotted path, such as `rows` or `self.rows`. In a function, paths that an assignment may make
the same object, or one a part of the other, are told apart no longer: so a row that changes `kept` changes `waiting`
if one was assigned to the other anywhere. Calls of the functions of the package are looked into. What is put into a
tuple, or passed to a class, is not followed.
"""

import ast

CHANGING = set("append clear extend insert pop remove reverse setdefault update sort add discard".split())
PARTS = set("get pop setdefault items keys values".split())
LAZY = set("enumerate zip reversed map iter".split())
COPIES = set("list tuple dict sorted".split())
# Two attributes can lead to each other, so that a path would grow forever.
MOST_JOINS = 30
COMPREHENSIONS = (ast.ListComp, ast.DictComp, ast.SetComp, ast.GeneratorExp)


def shared_changes(texts):
    """The sorted list of the triples (file, line, what is wrong) for a dict of the files' texts."""
    trees = {name: ast.parse(text) for name, text in texts.items()}
    found = [node for tree in trees.values() for node in ast.walk(tree) if isinstance(node, ast.FunctionDef)]
    package = Package(found)
    faults = set()
    for name, tree in trees.items():
        for node in ast.walk(tree):
            if isinstance(node, ast.FunctionDef):
                faults |= {(name, line, word) for line, word in Function(package, node).faults()}
    return sorted(faults)


class Package:
    """For the name of each function: what it changes, and which of its parameters it may return a part of."""

    def __init__(self, nodes):
        self.nodes = {}
        for node in nodes:
            self.nodes.setdefault(node.name, []).append(node)
        self.changed = {name: set() for name in self.nodes}
        self.returned = {name: set() for name in self.nodes}
        before = None
        while before != (self.changed, self.returned):
            before = (dict(self.changed), dict(self.returned))
            for name in self.nodes:
                known = [Function(self, node) for node in self.nodes[name]]
                self.changed[name] = set().union(*[function.changes_for_caller() for function in known])
                self.returned[name] = set().union(*[function.returns_for_caller() for function in known])

    def yields(self, name):
        inner = [part for node in self.nodes.get(name, ()) for part in ast.walk(node)]
        return any(isinstance(part, (ast.Yield, ast.YieldFrom)) for part in inner)

    def arguments(self, call):
        """A dict of the arguments of the call of an own function; its parameters count from 0, self is "self"."""
        table = {}
        if isinstance(call.func, ast.Attribute):
            table["self"] = call.func.value
        for place, argument in enumerate(call.args):
            table[place] = argument
        for keyword in call.keywords:
            table[keyword.arg] = keyword.value
        return table


def name_of_call(call):
    """The name of the function or the method that is called."""
    if isinstance(call.func, ast.Attribute):
        return call.func.attr
    return getattr(call.func, "id", None)


def path_of(node):
    """The dotted path of a name or an attribute, otherwise None."""
    if isinstance(node, ast.Name):
        return node.id
    if isinstance(node, ast.Attribute):
        inner = path_of(node.value)
        return inner and f"{inner}.{node.attr}"
    return None


class Function:
    """The rows of one function."""

    def __init__(self, package, node):
        self.package = package
        self.node = node
        self.leaders = {}
        for inner in ast.walk(node):
            if isinstance(inner, ast.Assign):
                for target in inner.targets:
                    self.join(target, inner.value)
            elif isinstance(inner, ast.NamedExpr):
                self.join(inner.target, inner.value)
            elif isinstance(inner, ast.Call) and name_of_call(inner) in ("append", "setdefault"):
                for argument in inner.args:
                    self.join(inner.func.value, argument)

    def leader(self, path):
        """The path that stands for this one; its beginning may have been joined with another path."""
        for _ in range(MOST_JOINS):
            places = [place for place in range(len(path), 0, -1) if (path + ".")[place] == "."]
            joined = [place for place in places if path[:place] in self.leaders]
            if not joined:
                break
            path = self.leaders[path[:joined[0]]] + path[joined[0]:]
        return path

    def join(self, target, value):
        if isinstance(target, (ast.Tuple, ast.List)):
            values = len(target.elts) * [value]
            if isinstance(value, (ast.Tuple, ast.List)) and len(value.elts) == len(target.elts):
                values = value.elts
            for part, of_part in zip(target.elts, values):
                self.join(part, of_part)
            return
        for left in self.paths(target):
            for right in self.paths(value):
                if not self.is_shared(left, right):
                    self.leaders[self.leader(left)] = self.leader(right)

    def paths(self, node):
        """The set of the paths of which the value may be the object or a part."""
        if path_of(node) is not None:
            return {path_of(node)}
        if isinstance(node, (ast.Attribute, ast.Starred)):
            return self.paths(node.value)
        if isinstance(node, ast.Subscript) and not isinstance(node.slice, ast.Slice):
            return self.paths(node.value)
        if isinstance(node, ast.IfExp):
            return self.paths(node.body) | self.paths(node.orelse)
        if isinstance(node, ast.NamedExpr):
            return self.paths(node.target) | self.paths(node.value)
        if isinstance(node, ast.BoolOp):
            return self.all_paths(node.values)
        if isinstance(node, ast.GeneratorExp):
            return self.all_paths([part.iter for part in node.generators])
        if isinstance(node, ast.Call):
            return self.paths_of_call(node)
        return set()

    def all_paths(self, nodes):
        return set().union(*[self.paths(node) for node in nodes])

    def paths_of_call(self, call):
        name = name_of_call(call)
        if isinstance(call.func, ast.Name) and name in LAZY:
            return self.all_paths(call.args)
        if name in self.package.nodes:
            return self.at_call(call, self.package.returned[name])
        if isinstance(call.func, ast.Attribute) and name in PARTS:
            return self.all_paths([call.func.value] + call.args)
        return set()

    def at_call(self, call, wanted):
        """The paths here of what the called function knows as a parameter, and perhaps an attribute of it."""
        table = self.package.arguments(call)
        found = set()
        for parameter, rest in wanted:
            if parameter in table:
                found |= {path + rest for path in self.paths(table[parameter])}
        return found

    def changes_in(self, node):
        """The pairs (line, path) of what the rows of the node change."""
        found = []
        for inner in ast.walk(node):
            paths = set()
            if isinstance(inner, ast.Call):
                paths = self.changes_of_call(inner)
            elif isinstance(inner, (ast.Assign, ast.Delete)):
                paths = self.all_paths([part for target in inner.targets for part in items_in(target)])
            elif isinstance(inner, ast.AugAssign):
                paths = self.paths(inner.target)
            found.extend([(inner.lineno, path) for path in paths])
        return found

    def changes_of_call(self, call):
        name = name_of_call(call)
        paths = set()
        if name in self.package.nodes:
            paths |= self.at_call(call, self.package.changed[name])
        if isinstance(call.func, ast.Attribute) and name in CHANGING:
            paths |= self.paths(call.func.value)
        return paths

    def for_caller(self, paths):
        """Those of the paths that begin with a parameter, as pairs (parameter, rest of the path)."""
        names = [argument.arg for argument in self.node.args.args]
        more = [argument.arg for argument in self.node.args.kwonlyargs]
        tables = {name: [place, name] for place, name in enumerate(names)}
        if names[:1] == ["self"]:
            tables = {name: [place, name] for place, name in enumerate(names[1:])}
            tables["self"] = ["self"]
        tables.update({name: [name] for name in more})
        found = set()
        for path in paths:
            for known in list(self.leaders) + list(self.leaders.values()) + [path]:
                first, dot, rest = known.partition(".")
                if self.leader(known) == self.leader(path) and first in tables:
                    found |= {(parameter, dot + rest) for parameter in tables[first]}
        return found

    def changes_for_caller(self):
        return self.for_caller({path for _, path in self.changes_in(self.node)})

    def returns_for_caller(self):
        inner = [node.value for node in ast.walk(self.node) if isinstance(node, (ast.Return, ast.Yield)) and node.value]
        return self.for_caller(self.all_paths(inner))

    def paths_read(self, node):
        """The paths of which the value may be the object or a part, or that it reads only while it is gone over."""
        if isinstance(node, ast.Call) and self.package.yields(name_of_call(node)):
            return self.all_paths(list(self.package.arguments(node).values()))
        return self.paths(node)

    def paths_gone_over(self, node):
        """The paths over which a loop with this head goes; for a generator in `list(..)` also what it was passed."""
        if isinstance(node, ast.Call) and isinstance(node.func, ast.Name) and node.func.id in COPIES and node.args:
            if isinstance(node.args[0], ast.Call) and self.package.yields(name_of_call(node.args[0])):
                return self.paths_read(node.args[0])
        return self.paths_read(node)

    def is_shared(self, one, other):
        """Whether one of the paths is the other, or leads on from it."""
        left = self.leader(one)
        right = self.leader(other)
        return left == right or left.startswith(right + ".") or right.startswith(left + ".")

    def faults(self):
        """The list of the pairs (line, what is wrong)."""
        found = []
        for node in ast.walk(self.node):
            if isinstance(node, ast.For):
                for row in node.body:
                    found.extend(self.faults_of_loop([node.iter], row))
            elif isinstance(node, COMPREHENSIONS):
                found.extend(self.faults_of_loop([part.iter for part in node.generators], node))
            elif isinstance(node, ast.AugAssign) and isinstance(node.op, (ast.Add, ast.BitOr)):
                found.extend(self.faults_of_gift(node, node.target, [node.value]))
            elif isinstance(node, ast.Call) and isinstance(node.func, ast.Attribute):
                if node.func.attr in ("extend", "update"):
                    found.extend(self.faults_of_gift(node, node.func.value, node.args))
        return found

    def faults_of_loop(self, iterated, row):
        paths = set().union(*[self.paths_gone_over(node) for node in iterated])
        changes = self.changes_in(row)
        return [(line, "loop") for line, changed in changes if any(self.is_shared(changed, path) for path in paths)]

    def faults_of_gift(self, node, target, values):
        given = set().union(*[self.paths_read(value) for value in values])
        return [(node.lineno, "gift") for path in self.paths(target) if any(self.is_shared(path, one) for one in given)]


def items_in(target):
    """The items and slices that the target of an assignment or a deletion has, as the objects they are in."""
    if isinstance(target, (ast.Tuple, ast.List)):
        return [part for inner in target.elts for part in items_in(inner)]
    if isinstance(target, ast.Subscript):
        return [target.value]
    if isinstance(target, ast.Starred):
        return items_in(target.value)
    return []
