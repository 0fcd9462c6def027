"""Pins: options that are written at places of a program."""

from anymaker.apart import unlike_inputs
from anymaker.documents import is_document, options_of
from anymaker.errors import BadDocument, BadPins, TooMany
from anymaker.fields import Field
from anymaker.firsts import Firsts
from anymaker.forms import ASKING, OPTIONS, is_let, is_place_form, is_row
from anymaker.ground import Ground
from anymaker.judging import judge_program
from anymaker.machine import Machine
from anymaker.programs import parts_of, places_by_kind
from anymaker.trees import children_of, nodes_of, open_kind

MOST_WRITINGS = 64


def judge_plain(document):
    """In this part a document lets one width alone and no fill "none"."""
    if not is_document(document):
        raise BadDocument("no document")
    if len(options_of(document, "width")) > 1 or "none" in options_of(document, "fill"):
        raise BadDocument("several widths, or the fill none")


def kinds_of_places(program):
    """A dict from all places of a program, ascending, to their kinds."""
    found = {}
    for name, expression in parts_of(program):
        for path, node in nodes_of(expression):
            kind = open_kind(node)
            if kind is not None:
                found[(name, path)] = kind
    return found


def let_at(document, program):
    """A dict from all places, ascending, to the options that the document lets there."""
    kinds = kinds_of_places(program)
    return {place: options_of(document, kinds[place]) for place in kinds}


def are_pins(document, program, thing):
    """Whether any value is pins of the program."""
    judge_plain(document)
    judge_program(program)
    return pin_places(let_at(document, program), thing)


def pin_places(let, thing):
    """Whether any value is an ascending tuple of pairs of different places and options that are let there."""
    if not isinstance(thing, tuple) or not all([is_pin(let, pair) for pair in thing]):
        return False
    every = {place: at for at, place in enumerate(let)}
    ranks = [every[place] for place, _ in thing]
    return ranks == sorted(set(ranks))


def is_pin(let, thing):
    """Whether any value is a pair of a place and an option that is let there."""
    return is_row(thing, 2) and is_place_form(thing[0]) and thing[0] in let and is_let(thing[1], let[thing[0]])


def judge_pins(document, program, pins):
    judge_plain(document)
    judge_program(program)
    if not pin_places(let_at(document, program), pins):
        raise BadPins("no pins of the program")


def writings(document, program):
    """The tuple of all pins for all places, the option of the last place changing fastest."""
    judge_plain(document)
    judge_program(program)
    return writings_of(document, program)


def writings_of(document, program):
    let = let_at(document, program)
    many = 1
    for place in let:
        many = many * len(let[place])
        if many > MOST_WRITINGS:
            raise TooMany(MOST_WRITINGS)
    rows = [()]
    for place in let:
        rows = [row + ((place, option),) for row in rows for option in let[place]]
    return tuple(rows)


def pinned(program, pins):
    """The program with these nodes pinned."""
    judge_program(program)
    kinds = kinds_of_places(program)
    let = {place: [option for option in OPTIONS[kinds[place]] if option != "none"] for place in kinds}
    if not pin_places(let, pins):
        raise BadPins("no ascending tuple of places with options of their kinds")
    return pinned_with(program, pins)


def pinned_with(program, pins):
    table = {place: option for place, option in pins}
    parts = [(name, written(expression, name, (), table)) for name, expression in parts_of(program)]
    return program[:2] + (tuple(parts[:-1]), parts[-1][1])


def written(expression, part, path, table):
    """The expression, at this path of a part, with the options that the table has for its places."""
    inner = list(expression)
    for at in children_of(expression):
        inner[at] = written(expression[at], part, path + (at,), table)
    if (part, path) in table:
        inner.append(table[(part, path)])
    return tuple(inner)


class Written:
    """What a program shows by some writings, side by side: kinds are equal just for those that show alike."""

    def __init__(self, document, program, rows):
        rulings = tuple([("place", options_of(document, kind)) for kind in ASKING])
        ground = Ground(("document",) + rulings + document[4:], program)
        machines = [Machine(ground, choice_by(document, program, row)) for row in rows]
        for machine in machines:
            machine.begin()
        self.firsts = Firsts(Field(machines, list(range(len(rows)))))
        self.kinds = [self.firsts.class_at(begin) for begin in self.firsts.field.begins]

    def row_of(self, index):
        """The row from which a writing shows what it does."""
        return self.firsts.at[self.firsts.field.begins[index]]

    def inputs_between(self, one, other):
        """The first inputs for which two writings, told by index, show unlike, or None."""
        return unlike_inputs(self.firsts.rows, self.row_of(one), self.row_of(other))


def choice_by(document, program, writing):
    """The choice of scope place that has the options of a writing."""
    table = {place: option for place, option in writing}
    rows = places_by_kind(program)
    items = [tuple([table[place] for place in rows[kind]]) for kind in ASKING]
    return tuple(items) + options_of(document, "width")


def judge_writing(document, program, writing):
    judge_pins(document, program, writing)
    if len(writing) != len(kinds_of_places(program)):
        raise BadPins("no pins for all places")


def unlike(document, program, one, other):
    """None if two writings show alike, otherwise the first inputs for which they do not."""
    judge_writing(document, program, one)
    judge_writing(document, program, other)
    return Written(document, program, [one, other]).inputs_between(0, 1)
