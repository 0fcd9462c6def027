"""From which memories a piece is never ruined, and ends only as wanted."""

from anymaker.errors import BadEnds, BadNames, BadPiece, BadTerms
from anymaker.forms import SIZES, is_between, is_memory, is_row
from anymaker.ground import Ground
from anymaker.machine import Machine
from anymaker.meanings import memories_of, ranks_of
from anymaker.pieces import is_pinned_name
from anymaker.stepping import explore
from anymaker.steps import can_ruin, event_nexts, silent_nexts
from anymaker.terms import is_terms
from anymaker.trees import is_tree, named_in, nodes_of
from anymaker.words import is_name


def judge_terms(terms):
    if not is_terms(terms):
        raise BadTerms("no terms")


def judge_names(names):
    if not isinstance(names, tuple) or not 1 <= len(names) <= 3 or not are_different_names(names):
        raise BadNames("no tuple of 1 to 3 different names")


def are_different_names(names):
    return all([is_name(name) for name in names]) and len(set(names)) == len(names)


def judge_piece(names, piece):
    """A piece is here an expression without calls and pinned names that has these names alone."""
    if not is_tree(piece, None) or not all([name in names for name in named_in(piece)]):
        raise BadPiece("no expression of these names alone")
    if any([node[0] == "call" or is_pinned_name(node) for _, node in nodes_of(piece)]):
        raise BadPiece("a call or a pinned name")


def are_ends(thing, many, size):
    """Whether any value is an ascending tuple of different pairs of a worth and a memory."""
    if not isinstance(thing, tuple):
        return False
    if not all([is_row(pair, 2) and is_between(pair[0], 0, size - 1) and is_memory(pair[1], many, size)
                for pair in thing]):
        return False
    ranks = [(worth, ranks_of(memory)) for worth, memory in thing]
    return ranks == sorted(set(ranks))


def before(terms, names, piece, ends):
    """The memories from which no run is ruined, and each one that ends does so with one of the ends."""
    judge_terms(terms)
    judge_names(names)
    judge_piece(names, piece)
    if not are_ends(ends, len(names), SIZES[terms[3]]):
        raise BadEnds("no ascending tuple of different pairs of a worth and a memory")
    return before_of(terms, names, piece, {end: True for end in ends})


def harmless_for(terms, names, piece):
    """The memories from which no run is ruined."""
    return before_of(terms, names, piece, None)


def before_of(terms, names, piece, ends):
    """The same for a dict of ends; None stands for all ends."""
    machine = machine_by(terms, names, piece)
    memories = memories_of(machine.size, len(names))
    body = machine.ground.whole_parts["body"]
    starts = [machine.meet(body, memory) for memory in memories]
    explore(machine, None)
    wrong = led_to(machine, [number for number in range(len(machine.pairs)) if is_wrong(machine, number, ends)])
    return tuple([memory for memory, start in zip(memories, starts) if start not in wrong])


def machine_by(terms, names, piece):
    """The machine of a piece, by terms: each request may get each option."""
    order, walk, fill, width = terms
    document = ("document", ("anew", order), ("anew", walk), ("anew", fill), ("run", (width,)), "ahead")
    return Machine(Ground(document, ("program", names, (), piece)), (None, None, None, width))


def is_wrong(machine, number, ends):
    """Whether a standing can be ruined, or ends otherwise than with one of the ends."""
    step = machine.step(number)
    if step[0] == "ends":
        return ends is not None and (step[1], machine.pairs[number][1]) not in ends
    return can_ruin(step)


def led_to(machine, numbers):
    """The dict of these standings and of all that lead to one of them."""
    ahead = [[] for _ in range(len(machine.pairs))]
    for number in range(len(machine.pairs)):
        step = machine.step(number)
        for reached in silent_nexts(step) + [one for _, one in event_nexts(step)]:
            ahead[reached].append(number)
    found = {}
    pending = list(numbers)
    while pending:
        number = pending.pop()
        if number not in found:
            found[number] = True
            pending.extend(ahead[number])
    return found
