"""L5 Operators and Properties: what operators and properties run changes nothing and calls nothing it is passed."""

import ast

from language import (CHANGING, MODIFYING, OPERATORS, bound_in, class_of, functions_of, is_generator, names_of)

ASKING = {"__neg__", "__invert__", "__bool__", "__contains__", "__getitem__", "__eq__", "__len__", "__str__", "__repr__"}
NEW_CALLS = ("list", "dict", "set", "sorted", "tuple")


def is_root(function):
    """Whether a function is an operator or a property that may change nothing."""
    if [ast.unparse(one) for one in function.decorator_list] == ["property"]:
        return True
    return (function.name in OPERATORS and function.name not in CHANGING) or function.name in ASKING


def defined(files):
    """All functions by the names by which they are called; a class is called by its __init__."""
    found = {}
    for file in files:
        for function in functions_of(file):
            owner = class_of(function)
            name = owner.name if owner and function.name == "__init__" else function.name
            found.setdefault(name, []).append((file, function))
    return found


def called_in(function):
    """The names of what a function calls, and of the properties and attributes that it reads."""
    names = set()
    for node in ast.walk(function):
        if isinstance(node, ast.Call):
            names.add(node.func.attr if isinstance(node.func, ast.Attribute) else ast.unparse(node.func))
    return names


def run_by_operators(files):
    """All functions that operators and properties run."""
    table = defined(files)
    waiting = [(file, function) for file in files for function in functions_of(file) if is_root(function)]
    found = {}
    while waiting:
        file, function = waiting.pop()
        if function in found:
            continue
        found[function] = file
        for name in called_in(function):
            waiting += table.get(name, [])
    return list(found.items())


def is_new(node):
    """Whether an expression creates a list, dict or set."""
    if isinstance(node, (ast.List, ast.Dict, ast.ListComp, ast.DictComp)):
        return True
    if isinstance(node, ast.BinOp):
        return is_new(node.left) or is_new(node.right)
    return isinstance(node, ast.Call) and isinstance(node.func, ast.Name) and node.func.id in NEW_CALLS


def created_in(function):
    """The local variables that are only ever assigned what the function creates."""
    assigned = {}
    for node in ast.walk(function):
        if isinstance(node, ast.Assign):
            for target in node.targets:
                if isinstance(target, ast.Name):
                    assigned.setdefault(target.id, []).append(is_new(node.value))
                else:
                    for part in ast.walk(target):
                        if isinstance(part, ast.Name) and isinstance(part.ctx, ast.Store):
                            assigned.setdefault(part.id, []).append(False)
        elif isinstance(node, (ast.For, ast.comprehension)):
            for part in ast.walk(node.target):
                if isinstance(part, ast.Name):
                    assigned.setdefault(part.id, []).append(False)
    return {name for name, kinds in assigned.items() if all(kinds)} - set(names_of(function))


def root_of(node):
    """The name whose item, or item's item, a node is."""
    while isinstance(node, ast.Subscript):
        node = node.value
    if isinstance(node, ast.Call) and isinstance(node.func, ast.Attribute) and node.func.attr == "setdefault":
        return root_of(node.func.value)
    return node.id if isinstance(node, ast.Name) else ast.unparse(node)


def changed_parts(function):
    """The statements and calls that change a value, with the expression of this value."""
    for node in ast.walk(function):
        if isinstance(node, ast.Call) and isinstance(node.func, ast.Attribute) and node.func.attr in MODIFYING:
            yield node, node.func.value
        elif isinstance(node, ast.Subscript) and isinstance(node.ctx, (ast.Store, ast.Del)):
            yield node, node.value


def is_setdefault(node):
    return isinstance(node, ast.Call) and isinstance(node.func, ast.Attribute) and node.func.attr == "setdefault"


def given_items(function, name):
    """The expressions of all items that a function gives what it keeps under a name; None for what is not told."""
    for node in ast.walk(function):
        if isinstance(node, ast.Assign):
            for target in node.targets:
                if isinstance(target, ast.Name) and target.id == name:
                    yield from items_of(node.value)
                if isinstance(target, ast.Subscript) and ast.unparse(target.value) == name:
                    yield node.value
        if isinstance(node, ast.Call) and isinstance(node.func, ast.Attribute) and ast.unparse(node.func.value) == name:
            if node.func.attr in ("append", "setdefault"):
                yield node.args[-1]
            elif node.func.attr in MODIFYING - {"pop", "remove", "clear"}:
                yield None


def items_of(node):
    """The expressions of the items of a value that is written out."""
    if isinstance(node, ast.ListComp):
        return [node.elt]
    if isinstance(node, ast.DictComp):
        return [node.value]
    if isinstance(node, ast.List):
        return node.elts
    if isinstance(node, ast.Dict):
        return node.values
    return [None]


def is_only_looked_at(function, name):
    """Whether what is kept under a name is only indexed, iterated over, measured, copied or returned."""
    for node in ast.walk(function):
        if not isinstance(node, ast.Name) or node.id != name or isinstance(node.ctx, ast.Store):
            continue
        above = node.above
        taken = isinstance(above, ast.Call) and ast.unparse(above.func) in ("len", "list", "dict", "tuple", "sorted")
        looped = isinstance(above, (ast.For, ast.comprehension)) and above.iter is node
        if not (taken or looped or isinstance(above, (ast.Subscript, ast.Attribute, ast.Return))):
            return False
    return True


def check_deep_changes(function):
    """The changes of items of items that are not in the forms of L5 Operators, with what is wrong in each."""
    created = created_in(function)
    for node, changed in changed_parts(function):
        if isinstance(changed, ast.Name) or isinstance(changed, ast.Attribute):
            continue
        name = root_of(changed)
        if is_setdefault(changed):
            if not isinstance(node, ast.Call):
                yield node, "an item of what setdefault returns"
            changed = changed.func
        if not isinstance(changed.value, ast.Name):
            yield node, "what is deeper than an item of an item"
        elif name not in created or not is_only_looked_at(function, name):
            yield node, f"items of items of {name}"
        elif not all(item is not None and is_new(item) for item in given_items(function, name)):
            yield node, f"an item of {name} that it did not create"


def changes_of(function):
    """The names that a function changes by methods, items and attributes."""
    for node in ast.walk(function):
        if isinstance(node, ast.Call) and isinstance(node.func, ast.Attribute) and node.func.attr in MODIFYING:
            yield node, root_of(node.func.value)
        elif isinstance(node, ast.Subscript) and isinstance(node.ctx, (ast.Store, ast.Del)):
            yield node, root_of(node.value)
        elif isinstance(node, ast.Attribute) and isinstance(node.ctx, (ast.Store, ast.Del)):
            if function.name != "__init__" or ast.unparse(node.value) != "self":
                yield node, ast.unparse(node)


def check_purity(files):
    """What is wrong in all functions that operators and properties run."""
    found = []
    for function, file in run_by_operators(files):
        created = created_in(function)
        for node, name in changes_of(function):
            if name not in created or is_generator(function):
                found.append(file.says(node, f"{function.name} changes {name}"))
        for node, text in check_deep_changes(function):
            found.append(file.says(node, f"{function.name} changes {text}"))
        for node in ast.walk(function):
            if isinstance(node, ast.AugAssign):
                found.append(file.says(node, f"{function.name} assigns in place"))
            if isinstance(node, ast.Call) and not isinstance(node.func, (ast.Name, ast.Attribute)):
                found.append(file.says(node, f"{function.name} calls what it holds"))
            if isinstance(node, ast.Call) and isinstance(node.func, ast.Name) and node.func.id in bound_in(function):
                if node.func.id != "cls":
                    found.append(file.says(node, f"{function.name} calls what it is passed"))
    return found
