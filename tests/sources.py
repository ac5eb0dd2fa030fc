"""The text of the package, and what its functions call and change, name by name."""

import ast
import pathlib

PACKAGE = pathlib.Path(__file__).parent.parent / "clockfolds"

MODIFYING = {
    "append", "clear", "extend", "insert", "pop", "remove", "reverse", "setdefault", "update", "add", "discard", "sort",
}

FRESH = (ast.List, ast.Dict, ast.ListComp, ast.DictComp)
FRESH_CALLS = {"list", "dict", "set", "sorted"}


def parsed():
    """The triples (path, text, tree) of the files of the package."""
    return [(path, path.read_text(), ast.parse(path.read_text())) for path in sorted(PACKAGE.glob("*.py"))]


def is_fresh(value):
    """Whether an expression surely is a new list, dict or set."""
    if isinstance(value, ast.Call):
        return isinstance(value.func, ast.Name) and value.func.id in FRESH_CALLS
    return isinstance(value, FRESH) or isinstance(value, ast.Subscript) and isinstance(value.slice, ast.Slice)


class Function:
    """A function of the package, or a method of a class of it."""

    def __init__(self, kind, node):
        self.kind = kind
        self.node = node
        self.name = node.name if kind is None else f"{kind}.{node.name}"

    def parts(self, *kinds):
        """All parts of the function's tree of these kinds."""
        return [part for part in ast.walk(self.node) if isinstance(part, kinds)]

    def yields(self):
        return bool(self.parts(ast.Yield, ast.YieldFrom))

    def is_property(self):
        return any(isinstance(mark, ast.Name) and mark.id == "property" for mark in self.node.decorator_list)

    def is_operator(self):
        """Whether Python calls it by a sign."""
        name = self.node.name
        return self.kind is not None and name.startswith("__") and name.endswith("__") and name != "__init__"

    def calls(self):
        """The pairs of the calls and the called names, None for what is called without a name."""
        found = []
        for call in self.parts(ast.Call):
            if isinstance(call.func, ast.Name):
                found.append((call, self.kind if call.func.id == "cls" else call.func.id))
            else:
                found.append((call, call.func.attr if isinstance(call.func, ast.Attribute) else None))
        return found

    def created(self):
        """The local variables that are only ever assigned something new."""
        stored = [part.id for part in self.parts(ast.Name) if not isinstance(part.ctx, ast.Load)]
        stored = stored + [argument.arg for argument in self.parts(ast.arg)]
        fresh = []
        for part in self.parts(ast.Assign):
            if len(part.targets) == 1 and isinstance(part.targets[0], ast.Name) and is_fresh(part.value):
                fresh.append(part.targets[0].id)
        return [name for name in fresh if stored.count(name) == fresh.count(name)]

    def makes(self, part):
        """Whether a part of the tree is an attribute that __init__ gives its own object."""
        own = isinstance(part, ast.Attribute) and isinstance(part.value, ast.Name) and part.value.id == "self"
        return own and self.node.name == "__init__"

    def changed(self):
        """The texts of what the function modifies although it did not create it."""
        found = []
        for part in self.parts(ast.Attribute, ast.Subscript):
            if not isinstance(part.ctx, ast.Load) and not self.makes(part):
                found.append(part.value if isinstance(part, ast.Subscript) else part)
        for call in self.parts(ast.Call):
            if isinstance(call.func, ast.Attribute) and call.func.attr in MODIFYING:
                found.append(call.func.value)
        own = self.created()
        return [ast.unparse(part) for part in found if ast.unparse(part) not in own]


class Sources:
    """All functions, methods and classes of some trees."""

    def __init__(self, trees):
        self.functions = []
        self.bases = {}
        for tree in trees:
            for node in tree.body:
                if isinstance(node, ast.FunctionDef):
                    self.functions.append(Function(None, node))
                elif isinstance(node, ast.ClassDef):
                    self.bases[node.name] = [ast.unparse(base) for base in node.bases]
                    methods = [part for part in node.body if isinstance(part, ast.FunctionDef)]
                    self.functions.extend([Function(node.name, method) for method in methods])

    def family(self, kind):
        """A class and all its base classes."""
        return [kind] + [above for base in self.bases.get(kind, []) for above in self.family(base)]

    def meant(self, call, name):
        """All functions and methods of the package that a call by this name may mean."""
        if isinstance(call.func, ast.Attribute):
            # The text does not tell of which class the object is.
            return [one for one in self.functions if one.kind is not None and one.node.name == name]
        if name in self.bases:
            family = self.family(name)
            return [one for one in self.functions if one.kind in family and one.node.name == "__init__"]
        return [one for one in self.functions if one.kind is None and one.node.name == name]

    def roots(self):
        """The operators and the properties."""
        return [one for one in self.functions if one.is_operator() or one.is_property()]

    def reached(self, function):
        """A function and all those that it calls by their names, also through others.

        What runs by a sign, or when a property is read, is left out: it is one of the roots itself.
        """
        found = [function]
        at = 0
        while at < len(found):
            for call, name in found[at].calls():
                found.extend([one for one in self.meant(call, name) if one not in found])
            at += 1
        return found

    def wrong(self, fault):
        """The pairs of the names of a root, and of a function that it reaches and that has a fault."""
        return [(root.name, one.name) for root in self.roots() for one in self.reached(root) if fault(one)]
