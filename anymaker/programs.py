"""Programs, and the places in them."""

from anymaker.errors import BadKind, BadProgram
from anymaker.forms import ASKING, is_row, is_word
from anymaker.trees import is_tree, names_only, nodes_of, open_kind
from anymaker.words import is_name


def is_program(thing):
    """Whether any value is a program."""
    return is_program_with(thing, None)


def is_program_with(thing, hole):
    """Whether any value is a program; hole, unless None, may stand where an expression may."""
    if not is_row(thing, 4) or not is_word(thing[0], ("program",)):
        return False
    if not are_variables(thing[1]) or not are_parts(thing[2]):
        return False
    ahead = []
    for name, expression in parts_of(thing):
        if not is_tree(expression, hole) or not names_only(expression, thing[1], ahead):
            return False
        ahead.append(name)
    return True


def are_variables(thing):
    if not isinstance(thing, tuple) or not 1 <= len(thing) <= 4:
        return False
    return all([is_name(name) for name in thing]) and len(set(thing)) == len(thing)


def are_parts(thing):
    """Whether any value is a tuple of named pairs, whatever the second ones are."""
    if not isinstance(thing, tuple) or len(thing) > 6:
        return False
    if not all([is_row(pair, 2) and is_name(pair[0]) for pair in thing]):
        return False
    return len(set([pair[0] for pair in thing])) == len(thing)


def parts_of(program):
    """The parts of a program as pairs, the body last."""
    return program[2] + (("body", program[3]),)


def places(program, kind):
    """The ascending tuple of all places of this kind."""
    if not is_program(program):
        raise BadProgram("no program")
    if not is_word(kind, ASKING):
        raise BadKind("none of order, walk, fill")
    return places_of(program, kind)


def places_of(program, kind):
    return tuple(places_by_kind(program)[kind])


def places_by_kind(program):
    """A dict from the kinds to the lists of their places, ascending."""
    found = {kind: [] for kind in ASKING}
    for name, expression in parts_of(program):
        for path, node in nodes_of(expression):
            kind = open_kind(node)
            if kind is not None:
                found[kind].append((name, path))
    return found
