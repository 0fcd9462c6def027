"""The least pins that force, and the places that are idle."""

from anymaker.forms import OPTIONS
from anymaker.judging import judge_program
from anymaker.pinning import Written, judge_plain, kinds_of_places, let_at, writings_of
from anymaker.sublots import has_part, parts_in_order


def least_pins(document, program):
    """All pins that force while no lesser part of them does."""
    judge_plain(document)
    judge_program(program)
    rows = writings_of(document, program)
    kinds = Written(document, program, rows).kinds
    let = let_at(document, program)
    found = []
    for places in parts_in_order(open_places(let)):
        for pins in all_pins(let, places):
            if not has_part(found, pins) and is_forced(rows, kinds, pins):
                found.append(pins)
    return tuple(sorted(found, key=lambda pins: (len(pins), ranks_of_pins(program, pins))))


def open_places(let):
    """The places with several options: others never matter."""
    return [place for place in let if len(let[place]) > 1]


def all_pins(let, places):
    """All pins for just these places."""
    found = [()]
    for place in places:
        found = [pins + ((place, option),) for pins in found for option in let[place]]
    return found


def is_forced(rows, kinds, pins):
    """Whether all writings of rows that have the pins are of one kind."""
    return len(set([kind for row, kind in zip(rows, kinds) if all([pair in row for pair in pins])])) == 1


def ranks_of_pins(program, pins):
    """Pins as numbers, by places, then options."""
    kinds = kinds_of_places(program)
    every = {place: at for at, place in enumerate(kinds)}
    return [(every[place], OPTIONS[kinds[place]].index(option)) for place, option in pins]


def idle_places(document, program):
    """The places at which alone no two writings show unlike."""
    judge_plain(document)
    judge_program(program)
    rows = writings_of(document, program)
    kinds = Written(document, program, rows).kinds
    return tuple([place for place in let_at(document, program) if is_idle(rows, kinds, place)])


def is_idle(rows, kinds, place):
    told = {}
    for row, kind in zip(rows, kinds):
        if told.setdefault(tuple([pair for pair in row if pair[0] != place]), kind) != kind:
            return False
    return True
