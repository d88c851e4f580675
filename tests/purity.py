"""L5 Operators and Properties: what operators and properties run changes nothing and calls nothing it is passed."""

import ast

from language import (CHANGING, MODIFYING, OPERATORS, bound_in, class_of, functions_of, is_generator, names_of)

ASKING = {"__neg__", "__invert__", "__bool__", "__contains__", "__getitem__", "__eq__", "__len__", "__str__", "__repr__"}
NEW_CALLS = ("list", "dict", "set", "sorted", "tuple")


def is_root(function):
    """Whether a function is an operator or a property that may change nothing."""
    if [ast.unparse(one) for one in function.decorator_list] == ["property"]:
        return True
    return (function.name in OPERATORS and function.name not in CHANGING) or function.name in ASKING


def defined(files):
    """All functions by the names by which they are called; a class is called by its __init__."""
    found = {}
    for file in files:
        for function in functions_of(file):
            owner = class_of(function)
            name = owner.name if owner and function.name == "__init__" else function.name
            found.setdefault(name, []).append((file, function))
    return found


def called_in(function):
    """The names of what a function calls, and of the properties and attributes that it reads."""
    names = set()
    for node in ast.walk(function):
        if isinstance(node, ast.Call):
            names.add(node.func.attr if isinstance(node.func, ast.Attribute) else ast.unparse(node.func))
    return names


def run_by_operators(files):
    """All functions that operators and properties run."""
    table = defined(files)
    waiting = [(file, function) for file in files for function in functions_of(file) if is_root(function)]
    found = {}
    while waiting:
        file, function = waiting.pop()
        if function in found:
            continue
        found[function] = file
        for name in called_in(function):
            waiting += table.get(name, [])
    return list(found.items())


def is_new(node):
    """Whether an expression creates a list, dict or set."""
    if isinstance(node, (ast.List, ast.Dict, ast.ListComp, ast.DictComp)):
        return True
    if isinstance(node, ast.BinOp):
        return is_new(node.left) or is_new(node.right)
    return isinstance(node, ast.Call) and isinstance(node.func, ast.Name) and node.func.id in NEW_CALLS


def created_in(function):
    """The local variables that are only ever assigned what the function creates."""
    assigned = {}
    for node in ast.walk(function):
        if isinstance(node, ast.Assign):
            for target in node.targets:
                if isinstance(target, ast.Name):
                    assigned.setdefault(target.id, []).append(is_new(node.value))
                else:
                    for part in ast.walk(target):
                        if isinstance(part, ast.Name) and isinstance(part.ctx, ast.Store):
                            assigned.setdefault(part.id, []).append(False)
        elif isinstance(node, (ast.For, ast.comprehension)):
            for part in ast.walk(node.target):
                if isinstance(part, ast.Name):
                    assigned.setdefault(part.id, []).append(False)
    return {name for name, kinds in assigned.items() if all(kinds)} - set(names_of(function))


def root_of(node):
    """The name whose item, or item's item, a node is."""
    while isinstance(node, ast.Subscript):
        node = node.value
    if isinstance(node, ast.Call) and isinstance(node.func, ast.Attribute) and node.func.attr == "setdefault":
        return root_of(node.func.value)
    return node.id if isinstance(node, ast.Name) else ast.unparse(node)


def changes_of(function):
    """The names that a function changes by methods, items and attributes."""
    for node in ast.walk(function):
        if isinstance(node, ast.Call) and isinstance(node.func, ast.Attribute) and node.func.attr in MODIFYING:
            yield node, root_of(node.func.value)
        elif isinstance(node, ast.Subscript) and isinstance(node.ctx, (ast.Store, ast.Del)):
            yield node, root_of(node.value)
        elif isinstance(node, ast.Attribute) and isinstance(node.ctx, (ast.Store, ast.Del)):
            if function.name != "__init__" or ast.unparse(node.value) != "self":
                yield node, ast.unparse(node)


def check_purity(files):
    """What is wrong in all functions that operators and properties run."""
    found = []
    for function, file in run_by_operators(files):
        created = created_in(function)
        for node, name in changes_of(function):
            if name not in created or is_generator(function):
                found.append(file.says(node, f"{function.name} changes {name}"))
        for node in ast.walk(function):
            if isinstance(node, ast.AugAssign):
                found.append(file.says(node, f"{function.name} assigns in place"))
            if isinstance(node, ast.Call) and not isinstance(node.func, (ast.Name, ast.Attribute)):
                found.append(file.says(node, f"{function.name} calls what it holds"))
            if isinstance(node, ast.Call) and isinstance(node.func, ast.Name) and node.func.id in bound_in(function):
                if node.func.id != "cls":
                    found.append(file.says(node, f"{function.name} calls what it is passed"))
    return found
