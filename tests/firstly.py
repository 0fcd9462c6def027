"""FIRST once more, and what makers of any memory show with given inputs, over plain standings."""

from tests import model


def first_of(document, choice):
    """The maker that gives each request the first option."""
    kinds = [pair for pair in document[1:5] if pair[0] == "anew"]
    return ("maker", choice, (tuple((pair[1][0], 0) for pair in kinds),))


def settled(document, program, choice, standing):
    """Where FIRST goes without an event: ("ends",), ("never",), ("ruined",), or a pair of events and standings."""
    seen = []
    while standing not in seen:
        if standing is None:
            return ("ruined",)
        seen.append(standing)
        move = model.moves(document, program, choice, standing)
        if move[0] in ("ends", "ruined"):
            return move[:1]
        if model.eventful(move):
            return ("goes", model.eventful(move))
        standing = move[3][0] if move[0] == "chooses" else move[2]
    return ("never",)


def shows_from(document, program, choice, standing, inputs, most):
    """The showing of FIRST from a standing on."""
    events, left = [], list(inputs)
    while True:
        now = settled(document, program, choice, standing)
        if now[0] != "goes":
            return tuple(events), now[0]
        asks = now[1][0][0][0] == "asked"
        if asks and not left:
            return tuple(events), "waits"
        if len(events) == most:
            return tuple(events), "more"
        event, standing = now[1][left.pop(0) if asks else 0]
        events.append(event)


def unlike_from(document, program, one, other):
    """Whether FIRST shows unlike things from two pairs (choice, standing) on, for some inputs."""
    pending = [(one, other)]
    for pair in pending:
        nows = [settled(document, program, *side) for side in pair]
        if nows[0][0] != nows[1][0]:
            return True
        if nows[0][0] != "goes":
            continue
        rows = [now[1] for now in nows]
        if [event for event, _ in rows[0]] != [event for event, _ in rows[1]]:
            return True
        for (_, mine), (_, others) in zip(*rows):
            behind = ((pair[0][0], mine), (pair[1][0], others))
            if behind not in pending:
                pending.append(behind)
    return False


def unlike_with(document, program, one, other, inputs):
    """Whether FIRST shows unlike things from two pairs on with these inputs; long showings stand for endless ones."""
    return shows_from(document, program, *one, inputs, 60) != shows_from(document, program, *other, inputs, 60)


def all_shown(document, program, rows, inputs, most):
    """All showings of makers of any memory by these choices with these inputs."""
    found = set()

    def go(events, lots, used):
        nexts = {}
        for choice, lot in lots:
            told = model.ends_of(document, program, choice, lot)
            found.update((events, end) for end in ("ends", "never", "ruined") if end in told)
            for standing in lot:
                for event, one in model.eventful(model.moves(document, program, choice, standing)):
                    nexts.setdefault(event, []).append((choice, one))
        if ("asked", 0) in nexts and used == len(inputs):
            found.add((events, "waits"))
        for event, behind in nexts.items():
            if event[0] == "asked" and (used == len(inputs) or event[1] != inputs[used]):
                continue
            if len(events) == most:
                found.add((events, "more"))
                continue
            by_choice = {}
            for choice, one in behind:
                by_choice.setdefault(choice, []).append(one)
            lots_behind = [(choice, model.closed(document, program, choice, lot)) for choice, lot in by_choice.items()]
            go(events + (event,), lots_behind, used + (event[0] == "asked"))
    go((), [(choice, model.closed(document, program, choice, [model.first(program)])) for choice in rows], 0)
    return found
