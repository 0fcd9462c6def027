"""Nodes of expressions: which items of a node are expressions, and what else it needs."""

from anymaker.forms import OPERATIONS, is_between, is_number, is_word
from anymaker.words import is_name

CHILDREN = {
    "set": (2,), "show": (1,), "if": (1, 2, 3), "then": (1, 2), "while": (1, 2), "each": (4,),
    "plus": (1, 2), "minus": (1, 2), "times": (1, 2), "same": (1, 2), "less": (1, 2), "over": (1, 2),
}
LENGTHS = {"number": 2, "set": 3, "show": 2, "ask": 1, "if": 4, "then": 3, "while": 3, "call": 2}


def is_headed(thing):
    """Whether any value is a tuple that begins with a word."""
    return isinstance(thing, tuple) and len(thing) > 0 and isinstance(thing[0], str)


def children_of(node):
    """The indexes at which a node has expressions."""
    return CHILDREN.get(node[0], ())


def is_node(thing):
    """Whether any value is a node, whatever stands where it has expressions."""
    if not is_headed(thing):
        return False
    head = thing[0]
    if head in OPERATIONS:
        return len(thing) == 3 or len(thing) == 4 and is_word(thing[3], ("left", "right"))
    if head == "each":
        return is_each(thing)
    if head == "name":
        return len(thing) in (2, 3) and is_name(thing[1]) and (len(thing) == 2 or is_between(thing[2], 0, 3))
    if head not in LENGTHS or len(thing) != LENGTHS[head]:
        return False
    if head == "number":
        return is_between(thing[1], 0, 7)
    return head not in ("set", "call") or is_name(thing[1])


def is_each(thing):
    if len(thing) not in (5, 6) or not is_name(thing[1]):
        return False
    if len(thing) == 6 and not is_word(thing[5], ("up", "down")):
        return False
    return is_between(thing[2], 0, 7) and is_between(thing[3], thing[2], 7)


def nodes_of(expression):
    """All nodes of an expression with their paths, each ahead of those below it."""
    found = []
    pending = [((), expression)]
    while pending:
        pair = pending.pop()
        found.append(pair)
        path, node = pair
        for at in CHILDREN.get(node[0], ())[::-1]:
            pending.append((path + (at,), node[at]))
    return found


def node_at(expression, path):
    """The node to which a path leads, None for any value that is no path to one."""
    if not isinstance(path, tuple):
        return None
    node = expression
    for at in path:
        if not is_number(at) or at not in children_of(node):
            return None
        node = node[at]
    return node


def is_tree(thing, hole):
    """Whether any value is an expression; hole, unless None, may stand where one may."""
    pending = [thing]
    while pending:
        node = pending.pop()
        if hole is not None and node == hole:
            continue
        if not is_node(node):
            return False
        pending.extend([node[at] for at in children_of(node)])
    return True


def named_in(expression):
    """The variables that an expression names, by letters."""
    return sorted(set([node[1] for _, node in nodes_of(expression) if node[0] in ("name", "set", "each")]))


def names_only(expression, variables, parts):
    """Whether an expression names these variables alone, and calls these parts alone."""
    pending = [expression]
    while pending:
        node = pending.pop()
        if node[0] in ("name", "set", "each") and node[1] not in variables:
            return False
        if node[0] == "call" and node[1] not in parts:
            return False
        pending.extend([node[at] for at in children_of(node)])
    return True


def open_kind(node):
    """The kind of which a node gets an option that is not pinned, None if there is none."""
    if node[0] == "name":
        return "fill" if len(node) == 2 else None
    if node[0] == "each":
        return "walk" if len(node) == 5 else None
    return "order" if node[0] in OPERATIONS and len(node) == 3 else None
