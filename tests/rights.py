"""What is right for what, by brute force over showings of few events."""

from anymaker.choices import choices
from tests import model


def base_of(document, choice):
    return tuple(None if pair[0] == "run" else item for pair, item in zip(document[1:5], choice))


def by_bases(document, program):
    """The choices of each base, in the order of the bases."""
    found = {}
    for choice in choices(document, program):
        found.setdefault(base_of(document, choice), []).append(choice)
    return found


def agree(document, one, other):
    return all(a == b for pair, a, b in zip(document[1:5], one, other) if pair[0] == "ever")


def asked(events):
    return tuple(number for word, number in events if word == "asked")


def is_free(document, ruined, events):
    """Whether one of these ruined runs' events frees a showing of these events."""
    if document[5] == "ahead":
        return any(events[:len(one)] == one for one in ruined)
    return any(asked(events)[:len(asked(one))] == asked(one) for one in ruined)


def ruined_by(document, program, rows):
    """The events of all ruined runs, of the whole graph: one for each inputs they ask for, however long."""
    found = set()
    for choice in rows:
        pending = [(model.first(program), ())]
        seen = set(pending)
        for standing, inputs in pending:
            move = model.moves(document, program, choice, standing)
            if model.ruinous(move):
                found.add(inputs)
            for event, one in [(None, one) for one in model.silent(move)] + model.eventful(move):
                given = inputs + ((event[1],) if event and event[0] == "asked" else ())
                if len(given) <= 2 and (one, given) not in seen:
                    seen.add((one, given))
                    pending.append((one, given))
    return [tuple(("asked", number) for number in inputs) for inputs in found]


def wrong_showings(document, old, new, base, other, most):
    """The showings of new under base, of at most so many events, that are neither of old under other nor free."""
    old_rows = by_bases(document, old)[other]
    mine = model.showings(document, new, by_bases(document, new)[base], most)
    others = model.showings(document, old, old_rows, most)
    if document[5] == "ahead":
        ruined = [events for events, end in others if end == "ruined"]
    else:
        ruined = ruined_by(document, old, old_rows)
    return {showing for showing in mine - others if not is_free(document, ruined, showing[0])}
