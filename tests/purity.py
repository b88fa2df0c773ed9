"""A reader of the program that looks for changes in what an operator or a property runs (L5 of ../shared/LANGUAGE.md)."""

import ast

MODIFIERS = set("append extend update pop clear insert remove reverse setdefault add discard sort".split())
MAKERS = ("list", "dict", "sorted")


def is_root(node):
    """Whether this method is an operator, one of the others that the rule names, or a property."""
    double = node.name.startswith("__") and node.name not in ("__init__", "__call__", "__enter__", "__exit__")
    return double or any(isinstance(one, ast.Name) and one.id == "property" for one in node.decorator_list)


def functions_of(texts):
    """Tuples (file, class or None, node) of all functions and methods."""
    found = []
    for name, text in texts.items():
        for node in ast.parse(text).body:
            if isinstance(node, ast.FunctionDef):
                found.append((name, None, node))
            if isinstance(node, ast.ClassDef):
                found += [(name, node.name, part) for part in node.body if isinstance(part, ast.FunctionDef)]
    return found


def is_made_here(node):
    """Whether the value is a new list or dict that may be changed."""
    made = isinstance(node, ast.Call) and isinstance(node.func, ast.Name) and node.func.id in MAKERS
    return made or isinstance(node, (ast.List, ast.Dict, ast.ListComp))


class Changes:
    """What one function changes that it did not make itself, and what it calls."""

    def __init__(self, where, node):
        self.where, self.node = where, node
        self.values = {}
        for one in ast.walk(node):
            if isinstance(one, ast.Assign):
                for target in one.targets:
                    if isinstance(target, ast.Name):
                        self.values.setdefault(target.id, []).append(one.value)
        self.parameters = [one.arg for one in node.args.args + node.args.kwonlyargs]

    def own(self, node):
        return isinstance(node, ast.Name) and node.id in self.values and all(map(is_made_here, self.values[node.id]))

    def found(self):
        what = []
        for one in ast.walk(self.node):
            if isinstance(one, (ast.Attribute, ast.Subscript)) and isinstance(one.ctx, (ast.Store, ast.Del)):
                # A new object gets its attributes.
                first = self.node.name == "__init__" and isinstance(one, ast.Attribute) and ast.unparse(one.value) == "self"
                what += [] if first else [one]
            if isinstance(one, ast.AugAssign):
                what.append(one)
            if isinstance(one, ast.Call) and isinstance(one.func, ast.Attribute) and one.func.attr in MODIFIERS:
                what += [] if self.own(one.func.value) else [one]
            if isinstance(one, ast.Call) and isinstance(one.func, ast.Name) and one.func.id in [*self.parameters, *self.values]:
                what.append(one)
        return [f"L5 {self.where} {self.node.name}:{one.lineno} {ast.unparse(one)}" for one in what]

    def called(self):
        """Names of functions and classes, and of methods."""
        calls = [one.func for one in ast.walk(self.node) if isinstance(one, ast.Call)]
        names = [one.id for one in calls if isinstance(one, ast.Name)]
        return names, [one.attr for one in calls if isinstance(one, ast.Attribute)]


def changes(texts):
    """All that operators and properties change, themselves or through what they call."""
    functions = functions_of(texts)
    waiting = [row for row in functions if row[1] and is_root(row[2])]
    done, found = [], []
    while waiting:
        row = waiting.pop()
        if row in done:
            continue
        done.append(row)
        reader = Changes(row[0], row[2])
        found += reader.found()
        names, methods = reader.called()
        waiting += [one for one in functions if one[1] is None and one[2].name in names]
        waiting += [one for one in functions if one[1] in names and one[2].name == "__init__"]
        waiting += [one for one in functions if one[1] is not None and one[2].name in methods]
    return found
