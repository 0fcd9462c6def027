"""Pins that force what a program shows, and changes of one place that tell that others do not."""

from anymaker.apart import are_unlike_with
from anymaker.forms import are_inputs, is_let, is_place_form, is_row
from anymaker.pinning import Written, judge_pins, let_at, pin_places, writings_of


def forces(document, program, pins):
    """Whether all writings that extend the pins show alike."""
    judge_pins(document, program, pins)
    rows = extending_pins(document, program, pins)
    return len(set(Written(document, program, rows).kinds)) == 1


def extending_pins(document, program, pins):
    """The writings that extend the pins."""
    return [row for row in writings_of(document, program) if extends(row, pins)]


def extends(pins, others):
    return all([pair in pins for pair in others])


def pin_change(document, program, pins):
    """(writing, place, option, inputs) that tell that the pins do not force, or None."""
    judge_pins(document, program, pins)
    rows = extending_pins(document, program, pins)
    sides = Written(document, program, rows)
    let = let_at(document, program)
    places = {row: at for at, row in enumerate(rows)}
    for at, row in enumerate(rows):
        for place, _ in row:
            for option in let[place]:
                other = places.get(changed(row, place, option), at)
                if sides.kinds[other] != sides.kinds[at]:
                    return (row, place, option, sides.inputs_between(at, other))
    return None


def changed(writing, place, option):
    """The writing with another option at the place."""
    return tuple([(one, option if one == place else told) for one, told in writing])


def is_pin_change(document, program, pins, thing):
    """Whether any value is a change that tells that the pins do not force."""
    judge_pins(document, program, pins)
    let = let_at(document, program)
    if not is_row(thing, 4) or not pin_places(let, thing[0]) or not isinstance(thing[3], tuple):
        return False
    writing, place, option, inputs = thing
    if len(writing) != len(let) or not extends(writing, pins) or not are_inputs(inputs):
        return False
    if not is_place_form(place) or place not in let or place in [one for one, _ in pins]:
        return False
    if not is_let(option, let[place]) or (place, option) in writing:
        return False
    sides = Written(document, program, [writing, changed(writing, place, option)])
    return are_unlike_with(sides.firsts.rows, sides.row_of(0), sides.row_of(1), inputs)
