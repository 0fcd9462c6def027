"""Labellings: rows of a machine for all standings, which show that a program is steady."""

from anymaker.choices import choices_of, fits
from anymaker.documents import scope_of
from anymaker.errors import BadKept
from anymaker.forms import KINDS, is_between, is_number, is_row, is_word
from anymaker.ground import Ground
from anymaker.judging import judge_document, judge_program
from anymaker.machine import Machine
from anymaker.machines import is_machine, machine_at
from anymaker.steps import heights_of
from anymaker.wholes import Whole, kept_items


def judge_kept(document, program, kept):
    judge_document(document)
    judge_program(program)
    if not isinstance(kept, tuple) or not all([is_word(kind, KINDS) for kind in kept]):
        raise BadKept("no tuple of kinds")
    ranks = [KINDS.index(kind) for kind in kept]
    if ranks != sorted(set(ranks)) or any([scope_of(document, kind) == "anew" for kind in kept]):
        raise BadKept("kinds out of order, or anew")


def labelling(document, program, kept):
    """A labelling of the program, or None."""
    judge_kept(document, program, kept)
    return labelling_of(document, program, kept)


def labelling_of(document, program, kept):
    whole = Whole(document, program)
    if not whole.is_steady(kept):
        return None
    return tuple([labelled(whole, index) for index in range(len(whole.rows))])


def labelled(whole, index):
    """The triple (choice, machine, labels) of a choice by which all makers show the same."""
    firsts, field = whole.firsts, whole.field
    machine, places = machine_at(firsts, field.begins[index])
    numbers = [number for number in range(len(field.owners)) if field.owners[number] == index]
    heights = heights_of({number: field.silent[number] for number in numbers})
    labels = []
    for number in numbers:
        labels.append((field.told(number), places[firsts.class_at(number)], heights.get(number, 0)))
    return (whole.rows[index], machine, tuple(labels))


def is_labelling(document, program, kept, thing):
    """Whether any value is a labelling of the program."""
    judge_kept(document, program, kept)
    return is_labelling_of(document, program, kept, thing)


def is_labelling_of(document, program, kept, thing):
    rows = choices_of(document, program)
    if not is_row(thing, len(rows)) or not all([is_row(triple, 3) and is_machine(triple[1]) for triple in thing]):
        return False
    ground = Ground(document, program)
    if not all([is_labelled(Machine(ground, choice), triple) for choice, triple in zip(rows, thing)]):
        return False
    machines = {}
    for choice, machine, _ in thing:
        if machines.setdefault(kept_items(choice, kept), machine) != machine:
            return False
    return True


def is_labelled(machine, triple):
    """Whether a triple has the choice of this machine, and labels for all that comes by it."""
    choice, shown, labels = triple
    ground = machine.ground
    if not fits(ground.document, ground.program, choice, ("anew",)) or choice != machine.choice:
        return False
    rows = shown[1]
    if not isinstance(labels, tuple) or not all([is_label(machine, len(rows), label) for label in labels]):
        return False
    table = {}
    for standing, row, rank in labels:
        table[machine.enter(standing)] = (row, rank)
    if len(table) < len(labels) or table.get(machine.begin(), (None, None))[0] != 0:
        return False
    return all([holds_label(machine.step(number), rows, table, table[number]) for number in table])


def is_label(machine, many, thing):
    """Whether any value is a triple of a standing, the index of one of so many rows, and a rank."""
    if not is_row(thing, 3) or not machine.ground.is_standing(machine.size, thing[0]):
        return False
    return is_between(thing[1], 0, many - 1) and is_number(thing[2]) and thing[2] >= 0


def holds_label(step, rows, table, label):
    """Whether a label tells what its standing does, and the labels behind it go on so."""
    at, rank = label
    row = rows[at]
    if step[0] == "ends":
        return row == ("ends",)
    if step[0] == "asks":
        return row[0] == "asks" and [row_behind(table, one) for one in step[1]] == list(row[1])
    if step[0] == "goes" and step[1] is not None:
        return row[:2] == ("shows", step[1][1]) and row_behind(table, step[2]) == row[2]
    if step[0] == "ruined":
        return False
    behind = [step[2]] if step[0] == "goes" else step[3]
    if not all([row_behind(table, one) == at for one in behind]):
        return False
    return row == ("never",) or all([table[one][1] < rank for one in behind])


def row_behind(table, number):
    """The row with which a standing behind is labelled, None if it is not, or if there is none."""
    return table.get(number, (None, None))[0]
