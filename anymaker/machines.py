"""Machines of rows, and the least one that shows what a program does by first options."""

from anymaker.automata import least_rows, numbered_rows
from anymaker.errors import BadInputs, BadMachine, BadMost
from anymaker.fields import Field
from anymaker.firsts import Firsts, head_of, ways_at
from anymaker.forms import are_inputs, asked_in, is_between, is_row, is_word
from anymaker.ground import Ground
from anymaker.machine import Machine
from anymaker.refusing import judge_choice


def is_machine(thing):
    """Whether any value is a machine."""
    if not is_row(thing, 2) or not is_word(thing[0], ("machine",)):
        return False
    rows = thing[1]
    return isinstance(rows, tuple) and len(rows) > 0 and all([is_machine_row(row, len(rows)) for row in rows])


def is_machine_row(thing, many):
    """Whether any value is a row of a machine of so many rows."""
    if is_row(thing, 1):
        return is_word(thing[0], ("ends", "never", "ruined"))
    if is_row(thing, 3):
        return is_word(thing[0], ("shows",)) and is_between(thing[1], 0, 7) and is_between(thing[2], 0, many - 1)
    if not is_row(thing, 2) or not is_word(thing[0], ("asks",)) or not is_row(thing[1], 8):
        return False
    return all([is_between(row, 0, many - 1) for row in thing[1]])


def judge_machine(machine):
    if not is_machine(machine):
        raise BadMachine("no machine")


def shown_by(machine, inputs, most):
    """The showing of the machine, of at most so many events."""
    judge_machine(machine)
    if not are_inputs(inputs):
        raise BadInputs("no list of numbers from 0 to 7")
    if not is_between(most, 0, 200):
        raise BadMost("no number from 0 to 200")
    events = []
    row = machine[1][0]
    while row[0] in ("shows", "asks"):
        given = len(asked_in(events))
        if row[0] == "asks" and given == len(inputs):
            return (tuple(events), "waits")
        if len(events) == most:
            return (tuple(events), "more")
        if row[0] == "shows":
            events.append(("shown", row[1]))
            row = machine[1][row[2]]
        else:
            events.append(("asked", inputs[given]))
            row = machine[1][row[1][inputs[given]]]
    return (tuple(events), row[0])


def least_machine(machine):
    """The one least machine with the same showings."""
    judge_machine(machine)
    return least_from(machine[1], 0)


def least_from(rows, begin):
    """The least machine with the showings that come from a row on."""
    return as_machine(least_rows([head_of(row) for row in rows], [ways_at(row) for row in rows], begin))


def machine_at(firsts, number):
    """The least machine of FIRST from a standing on, and a dict from the classes that come to its rows."""
    heads = [head_of(row) for row in firsts.rows]
    goes = [ways_at(row) for row in firsts.rows]
    found, places = numbered_rows(heads, goes, firsts.classes, firsts.at[number])
    return as_machine(found), places


def as_machine(pairs):
    """The machine of pairs of a head and the ways from it."""
    return ("machine", tuple([row_of(head, ways) for head, ways in pairs]))


def row_of(head, ways):
    if head[0] == "shows":
        return head + (ways[0][1],)
    if head[0] == "asks":
        return head + (tuple([reached for _, reached in ways]),)
    return head


def machine_of(document, program, choice):
    """The least machine with the showings of the maker of first options."""
    judge_choice(document, program, choice)
    machine = Machine(Ground(document, program), choice)
    machine.begin()
    firsts = Firsts(Field([machine], [0]))
    return machine_at(firsts, 0)[0]
