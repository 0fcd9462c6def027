"""Pin trees: labellings, place by place, which show that pins force."""

from anymaker.documents import options_of
from anymaker.forcing import extending_pins
from anymaker.forms import ASKING, is_place_form, is_row, is_word
from anymaker.labellings import is_labelling_of, labelling_of
from anymaker.machines import is_machine, least_from, machine_at
from anymaker.pinning import Written, judge_pins, let_at, pinned_with


def pin_tree(document, program, pins):
    """A pair of the machine that the pins force and a pin tree with it, or None."""
    judge_pins(document, program, pins)
    sides = Written(document, program, extending_pins(document, program, pins))
    if len(set(sides.kinds)) > 1:
        return None
    machine = machine_at(sides.firsts, sides.firsts.field.begins[0])[0]
    if ("ruined",) in machine[1]:
        return None
    return (machine, tree_at(document, program, let_at(document, program), pins))


def all_anew(document):
    """The document in which all that is open is chosen anew."""
    rulings = tuple([("anew", options_of(document, kind)) for kind in ASKING])
    return ("document",) + rulings + document[4:]


def tree_at(document, program, let, pins):
    """A pin tree for pins that force."""
    labels = labelling_of(all_anew(document), pinned_with(program, pins), ())
    if labels is not None:
        return ("all", labels)
    taken = [place for place, _ in pins]
    place = [one for one in let if one not in taken and len(let[one]) > 1][0]
    trees = [tree_at(document, program, let, with_pin(let, pins, place, option)) for option in let[place]]
    return ("try", place, tuple(trees))


def with_pin(let, pins, place, option):
    """The pins with one more, ascending."""
    table = {one: told for one, told in pins}
    table[place] = option
    return tuple([(one, table[one]) for one in let if one in table])


def is_pin_tree(document, program, pins, thing):
    """Whether any value is a pair of a least machine and a pin tree with it for the pins."""
    judge_pins(document, program, pins)
    if not is_row(thing, 2) or not is_machine(thing[0]) or least_from(thing[0][1], 0) != thing[0]:
        return False
    return holds_tree(document, program, pins, thing[0], thing[1])


def holds_tree(document, program, pins, machine, thing):
    """Whether any value is a pin tree for the pins with this machine."""
    if is_row(thing, 2) and is_word(thing[0], ("all",)):
        if not is_labelling_of(all_anew(document), pinned_with(program, pins), (), thing[1]):
            return False
        return thing[1][0][1] == machine
    if not is_row(thing, 3) or not is_word(thing[0], ("try",)) or not is_place_form(thing[1]):
        return False
    let = let_at(document, program)
    place = thing[1]
    if place not in let or place in [one for one, _ in pins] or not is_row(thing[2], len(let[place])):
        return False
    return all([
        holds_tree(document, program, with_pin(let, pins, place, option), machine, tree)
        for option, tree in zip(let[place], thing[2])
    ])
