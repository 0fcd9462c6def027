"""Linked runs once more, by explicit stacks of parts at work, over plain standings and slow.

A state is a pair (stack, memory); a stack is a tuple of (part, memory with which it was begun, choice, rest),
the part at work last. A stack that has no part is over.
"""

from anymaker.choices import choices
from tests import model
from tests.samples import Maker, document, few_standings, name, number, put, show, then


def active_path(rest, path=()):
    head = rest[0]
    if head in ("set", "show", "if", "then"):
        inner = [2 if head == "set" else 1]
    elif head in model.OPERATIONS and rest[3] in ("left", "right"):
        inner = [1, 2] if rest[3] == "left" else [2, 1]
    else:
        inner = []
    for at in inner:
        if rest[at][0] != "number":
            return active_path(rest[at], path + (at,))
    return path


def node_of(rest, path):
    for at in path:
        rest = rest[at]
    return rest


def exchanged_at(rest, path, new):
    if not path:
        return new
    return rest[:path[0]] + (exchanged_at(rest[path[0]], path[1:], new),) + rest[path[0] + 1:]


def begun(document, program, part, memory):
    """What is at work when a part is begun, by each choice: items of a stack."""
    return [(part, memory, choice, model.placed(program, part)) for choice in choices(document, program)]


def first_states(document, program):
    nothing = (None,) * len(program[1])
    return [((item,), nothing) for item in begun(document, program, "body", nothing)]


def step(document, program, state):
    """(item of a trace or None, states behind): ("begins", ..), ("ends", ..) or ("ruined",); (None, []) if over."""
    stack, memory = state
    part, first, choice, rest = stack[-1]
    path = active_path(rest)
    node = node_of(rest, path)
    if node[0] == "call":
        return [(("begins", node[1], memory), (stack + (item,), memory)) for item in begun(document, program, node[1], memory)]
    move = model.moves(document, program, choice, (rest, memory))
    if move[0] == "ends":
        item = ("ends", move[1], memory)
        if len(stack) == 1:
            return [(item, ((), memory))]
        caller = stack[-2]
        back = exchanged_at(caller[3], active_path(caller[3]), ("number", move[1]))
        return [(item, (stack[:-2] + (caller[:3] + (back,),), memory))]
    found = [(None, (stack[:-1] + ((part, first, choice, one[0]),), one[1]))
             for one in model.silent(move) + [one for _, one in model.eventful(move)]]
    if model.ruinous(move):
        found.append((("ruined",), ((), memory)))
    return found


def all_states(document, program, states):
    """All states behind these, with the items of traces on the way to them."""
    found = list(states)
    seen = set(found)
    for state in found:
        if state[0]:
            for _, one in step(document, program, state):
                if one not in seen:
                    seen.add(one)
                    found.append(one)
    return found


def outcome(document, program, part, memory):
    """(whether it is ruined, the ends), by all linked runs of the part."""
    ruined, ends = False, set()
    for state in all_states(document, program, [((item,), memory) for item in begun(document, program, part, memory)]):
        if not state[0]:
            continue
        for item, _ in step(document, program, state):
            if item == ("ruined",):
                ruined = True
            if item is not None and item[0] == "ends" and len(state[0]) == 1:
                ends.add(item[1:])
    return ruined, tuple(sorted(ends, key=end_rank))


def rank(memory):
    return tuple(-1 if worth is None else worth for worth in memory)


def end_rank(end):
    return end[0], rank(end[1])


def traces(document, program, most):
    """All traces of at most so many items, and the beginnings that can come no further."""
    found = {()}
    level = {(): closed(document, program, first_states(document, program), True)}
    for _ in range(most):
        behind = {}
        for trace, states in level.items():
            for state in states:
                for item, one in ([(("begins", "body", state[1]), state)] if not trace else step(document, program, state)):
                    if item is not None:
                        behind.setdefault(trace + (item,), []).append(one)
        level = {trace: closed(document, program, states, False) for trace, states in behind.items()}
        found |= set(level)
    return found


def closed(document, program, states, is_first):
    """These states, and all to which steps lead that no trace tells."""
    found = list(dict.fromkeys(states))
    if is_first:
        return found
    seen = set(found)
    for state in found:
        if state[0]:
            for item, one in step(document, program, state):
                if item is None and one not in seen:
                    seen.add(one)
                    found.append(one)
    return [state for state in found if state[0]]


def loose(maker, size_at_most=1):
    """A loose document."""
    def ruling(options, pick):
        many = maker.some((1, 2))
        lot = tuple(options[:many]) if pick else tuple(sorted(maker.random.sample(options, many), key=options.index))
        scopes = ("part", "place", "anew") if len(lot) > 1 else ("ever", "run", "part", "place", "anew", "program")
        return (maker.some(scopes), lot)
    width = (maker.some(("ever", "run", "program")), (maker.some(tuple(range(1, size_at_most + 1))),))
    return ("document", ruling(("left", "right"), False), ruling(("up", "down"), False), ruling((0, 1, "none"), False), width,
            maker.some(("ahead", "whole")))


def small_part(maker, depth, parts):
    """Something that sets, reads, calls and may be ruined."""
    if depth == 0:
        leaves = [name("x"), name("x"), number(1), number(0), put("x", number(1)), put("x", number(0)), ("ask",)]
        return maker.some(leaves + [("call", part) for part in parts] * 3)
    inner = [small_part(maker, maker.some((0, depth - 1)), parts) for _ in range(3)]
    return maker.some(((maker.some(("plus", "less", "over", "same")), inner[0], inner[1]), then(*inner[:2]), then(*inner[:2]),
                       ("if",) + tuple(inner), put("x", inner[0]), show(inner[0]), ("while", inner[0], inner[1])))


def cases(seed, many, most_choices=8, parts=2):
    """Pairs of a loose document and a program of several parts, with few standings."""
    maker = Maker(seed)
    found = []
    while len(found) < many:
        told = loose(maker)
        rows = ()
        for part in ("p", "q")[:maker.some(tuple(range(1, parts + 1)))]:
            rows += ((part, small_part(maker, 2, tuple(one for one, _ in rows))),)
        thing = ("program", ("x",), rows, small_part(maker, 2, tuple(one for one, _ in rows)))
        if "call" in str(thing[3]) and few_standings(told, thing, 120) and len(choices(told, thing)) <= most_choices:
            found.append((told, thing))
    return found


PLAIN = document(fill=("part", (0, 1)))
