"""Variables that are set ahead of a program, and those whose reading it ruins."""

from anymaker.choices import choices_of
from anymaker.documents import options_of, scope_of
from anymaker.errors import BadNames, BadNumber, FixedFill
from anymaker.forms import is_between, is_number
from anymaker.ground import Ground
from anymaker.guards import is_part_of
from anymaker.judging import judge_document, judge_program
from anymaker.machine import Machine
from anymaker.ruins import can_be_ruined
from anymaker.sublots import has_part, parts_in_order
from anymaker.walks import ways_of


def set_ahead(program, names, n):
    """The program that sets these variables to the number ahead of its body."""
    judge_program(program)
    if not is_part_of(names, program[1]):
        raise BadNames("no tuple of variables of the program in its order")
    if not is_between(n, 0, 7):
        raise BadNumber("no number from 0 to 7")
    return ahead_of(program, names, n)


def ahead_of(program, names, n):
    body = program[3]
    for name in reversed(names):
        body = ("then", ("set", name, ("number", n)), body)
    return program[:3] + (body,)


def judge_fill(document, program, n):
    judge_document(document)
    judge_program(program)
    if scope_of(document, "fill") != "anew":
        raise FixedFill("the fill is not anew")
    if not is_number(n) or n not in options_of(document, "fill"):
        raise BadNumber("no number that the fill lets")


def set_lots(document, program, n):
    """The least lots of variables with which set ahead the program is never ruined."""
    judge_fill(document, program, n)
    found = []
    for lot in parts_in_order(program[1]):
        if not has_part(found, lot) and not can_be_ruined(document, ahead_of(program, lot, n)):
            found.append(lot)
    return tuple(found)


def ruin_lots(document, program, n):
    """The least lots of variables such that some ruined run reads no other unset one as anything but n."""
    judge_fill(document, program, n)
    ground = Ground(document, program)
    machines = [Machine(ground, choice) for choice in choices_of(document, program)]
    found = []
    for lot in parts_in_order(program[1]):
        if not has_part(found, lot) and any([is_ruined_with(machine, lot, n) for machine in machines]):
            found.append(lot)
    return tuple(found)


def is_ruined_with(machine, lot, n):
    """Whether some run is ruined that reads unset variables as n, but for those of the lot."""
    seen = {}
    pending = [machine.begin()]
    while pending:
        number = pending.pop()
        if number in seen:
            continue
        seen[number] = True
        for reached in behind_reading(machine, number, lot, n):
            if reached is None:
                return True
            pending.append(reached)
    return False


def behind_reading(machine, number, lot, n):
    """The standings behind one, None for ruin; an unset variable beside the lot is read as n alone."""
    rest, memory = machine.pairs[number]
    _, node = machine.active(rest)
    ways = ways_of(machine, number)
    if node[0] != "name" or memory[machine.ground.slots[node[1]]] is not None or node[1] in lot:
        return [one[3] for one in ways]
    if is_number(node[2]):
        return [one[3] for one in ways if (node[2] - n) % machine.size == 0]
    return [one[3] for one in ways if one[1] != "none" and (one[1] - n) % machine.size == 0]
