"""The document's machine once more, written straight from its words over plain tuples, and slow."""

import functools

OPERATIONS = ("plus", "minus", "times", "same", "less", "over")
KINDS = ("order", "walk", "fill", "width")
INNER = {"set": (2,), "show": (1,), "if": (1, 2, 3), "then": (1, 2), "while": (1, 2), "each": (4,)}
INNER.update({op: (1, 2) for op in OPERATIONS})


def parts_of(program):
    return dict(program[2] + (("body", program[3]),))


def placed(program, part):
    def go(node, path):
        made = [go(one, path + (at,)) if at in INNER.get(node[0], ()) else one for at, one in enumerate(node)]
        plain = {"each": 5, "name": 2}.get(node[0], 3 if node[0] in OPERATIONS else None)
        if len(node) == plain:
            made.append((part, path))
        return tuple(made)
    return go(parts_of(program)[part], ())


def places(program, kind):
    found = []

    def go(part, node, path):
        pinned = {"order": 3, "walk": 5, "fill": 2}[kind]
        heads = {"order": OPERATIONS, "walk": ("each",), "fill": ("name",)}[kind]
        if node[0] in heads and len(node) == pinned:
            found.append((part, path))
        for at in INNER.get(node[0], ()):
            go(part, node[at], path + (at,))
    for part, expression in parts_of(program).items():
        go(part, expression, ())
    return tuple(found)


def first(program):
    return (placed(program, "body"), (None,) * len(program[1]))


def answer(document, program, choice, kind, place):
    scope = document[1 + KINDS.index(kind)][0]
    item = choice[KINDS.index(kind)]
    if scope == "part":
        return item[list(parts_of(program)).index(place[0])]
    if scope == "place":
        return item[places(program, kind).index(place)]
    return item


@functools.lru_cache(maxsize=40000)
def moves(document, program, choice, standing):
    size = 2 ** choice[3]
    rest, memory = standing
    slots = {variable: at for at, variable in enumerate(program[1])}

    def exchanged(node, path, new):
        if not path:
            return new
        return node[:path[0]] + (exchanged(node[path[0]], path[1:], new),) + node[path[0] + 1:]

    def active(node, path):
        if node[0] in ("set", "show", "if", "then"):
            inner = [2 if node[0] == "set" else 1]
        elif node[0] in OPERATIONS and node[3] in ("left", "right"):
            inner = [1, 2] if node[3] == "left" else [2, 1]
        else:
            inner = []
        for at in inner:
            if node[at][0] != "number":
                return active(node[at], path + (at,))
        return node, path

    if rest[0] == "number":
        return ("ends", rest[1] % size)
    node, path = active(rest, ())
    head = node[0]

    def goes(new, event=None, kept=memory):
        return ("goes", event, (exchanged(rest, path, new), kept))

    def asks_for(kind, place, behind):
        option = answer(document, program, choice, kind, place)
        if option is not None:
            new = behind(option)
            return ("ruined",) if new is None else goes(new)
        made = []
        for one in document[1 + KINDS.index(kind)][1]:
            new = behind(one)
            made.append(None if new is None else (exchanged(rest, path, new), memory))
        return ("chooses", kind, place, tuple(made))

    if head == "ask":
        return ("asks", tuple((exchanged(rest, path, ("number", n % size)), memory) for n in range(8)))
    if head == "name":
        worth = memory[slots[node[1]]]
        if worth is not None:
            return goes(("number", worth))
        if not isinstance(node[2], tuple):
            return goes(("number", node[2] % size))
        return asks_for("fill", node[2], lambda one: None if one == "none" else ("number", one % size))
    if head == "call":
        return goes(placed(program, node[1]))
    if head == "while":
        return goes(("if", node[1], ("then", node[2], node), ("number", 0)))
    if head == "each":
        _, x, low, high, body, way = node
        if isinstance(way, tuple):
            return asks_for("walk", way, lambda one: node[:5] + (one,))
        if low > high:
            return goes(("number", 0))
        if way == "up":
            return goes(("then", ("then", ("set", x, ("number", low % size)), body), ("each", x, low + 1, high, body, way)))
        return goes(("then", ("then", ("set", x, ("number", high % size)), body), ("each", x, low, high - 1, body, way)))
    if head in OPERATIONS:
        if isinstance(node[3], tuple):
            return asks_for("order", node[3], lambda one: node[:3] + (one,))
        a, b = node[1][1] % size, node[2][1] % size
        if head == "over" and b == 0:
            return ("ruined",)
        result = {"plus": a + b, "minus": a - b, "times": a * b, "same": int(a == b), "less": int(a < b),
                  "over": a // b if b else 0}[head]
        return goes(("number", result % size))
    if head == "set":
        worth = node[2][1] % size
        at = slots[node[1]]
        return goes(("number", worth), None, memory[:at] + (worth,) + memory[at + 1:])
    if head == "show":
        worth = node[1][1] % size
        return goes(("number", worth), ("shown", worth))
    if head == "if":
        return goes(node[2] if node[1][1] % size else node[3])
    return goes(node[2])


def silent(move):
    if move[0] == "goes" and move[1] is None:
        return [move[2]]
    if move[0] == "chooses":
        return [one for one in move[3] if one is not None]
    return []


def eventful(move):
    if move[0] == "goes" and move[1] is not None:
        return [(move[1], move[2])]
    if move[0] == "asks":
        return [(("asked", n), one) for n, one in enumerate(move[1])]
    return []


def ruinous(move):
    return move[0] == "ruined" or move[0] == "chooses" and None in move[3]


def standings(document, program, choice, start=None):
    found = [start or first(program)]
    known = set(found)
    for standing in found:
        move = moves(document, program, choice, standing)
        for one in silent(move) + [one for _, one in eventful(move)]:
            if one not in known:
                known.add(one)
                found.append(one)
    return found


def closed(document, program, choice, lot):
    found = list(lot)
    known = set(found)
    for standing in found:
        for one in silent(moves(document, program, choice, standing)):
            if one not in known:
                known.add(one)
                found.append(one)
    return found


def has_round(document, program, choice, lot):
    """Whether some standing of a closed lot leads silently to itself."""
    for standing in lot:
        behind = silent(moves(document, program, choice, standing))
        if standing in closed(document, program, choice, behind):
            return True
    return False


def lot_behind(document, program, choice, events, start=None):
    lot = closed(document, program, choice, [start or first(program)])
    for event in events:
        behind = []
        for standing in lot:
            behind += [one for told, one in eventful(moves(document, program, choice, standing)) if told == event]
        lot = closed(document, program, choice, behind)
    return lot


def ends_of(document, program, choice, lot):
    told = [moves(document, program, choice, standing) for standing in lot]
    found = set()
    if any(eventful(move) for move in told):
        found.add("more")
    if any(move[0] == "ends" for move in told):
        found.add("ends")
    if any(move[0] == "asks" for move in told):
        found.add("waits")
    if has_round(document, program, choice, lot):
        found.add("never")
    if any(ruinous(move) for move in told):
        found.add("ruined")
    return found


def showings(document, program, choices, most, start=None):
    """All showings of at most so many events that come by these choices."""
    found = set()

    def go(events):
        ends = set()
        nexts = set()
        for choice in choices:
            lot = lot_behind(document, program, choice, events, start)
            ends |= ends_of(document, program, choice, lot)
            for standing in lot:
                nexts |= {event for event, _ in eventful(moves(document, program, choice, standing))}
        found.update((events, end) for end in ends)
        if len(events) < most:
            for event in nexts:
                go(events + (event,))
    go(())
    return found
