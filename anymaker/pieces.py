"""Pieces, and contexts with holes for them."""

from anymaker.errors import BadContext, BadPiece, Unnamed
from anymaker.programs import is_program_with, parts_of
from anymaker.trees import children_of, is_tree, named_in, nodes_of

HOLE = ("hole",)


def is_piece(thing):
    """Whether any value is a piece."""
    if not is_tree(thing, None):
        return False
    nodes = [node for _, node in nodes_of(thing)]
    if any([node[0] in ("call", "ask") or is_pinned_name(node) for node in nodes]):
        return False
    return len(named_in(thing)) <= 3


def is_pinned_name(node):
    return node[0] == "name" and len(node) == 3


def is_context(thing):
    """Whether any value is a context."""
    if not is_program_with(thing, HOLE):
        return False
    nodes = [node for _, part in parts_of(thing) for _, node in nodes_of(part)]
    return HOLE in nodes and not any([is_pinned_name(node) for node in nodes])


def filled(context, piece):
    """The program with the piece in the place of each hole."""
    if not is_context(context):
        raise BadContext("no context")
    if not is_piece(piece):
        raise BadPiece("no piece")
    for name in named_in(piece):
        if name not in context[1]:
            raise Unnamed(name)
    return filled_with(context, piece)


def filled_with(context, piece):
    parts = tuple([(name, put_in(part, piece)) for name, part in context[2]])
    return ("program", context[1], parts, put_in(context[3], piece))


def put_in(expression, piece):
    if expression == HOLE:
        return piece
    inner = list(expression)
    for at in children_of(expression):
        inner[at] = put_in(expression[at], piece)
    return tuple(inner)
