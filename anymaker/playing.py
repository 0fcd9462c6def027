"""The run of a program in which each request gets the option that a table tells for its standing."""

from anymaker.choices import choices_of
from anymaker.documents import options_of
from anymaker.errors import BadInputs, BadMost, BadOptions, NotTold, TooMany
from anymaker.forms import are_inputs, is_between, is_let, is_number
from anymaker.ground import Ground
from anymaker.machine import Machine
from anymaker.refusing import judge_choice
from anymaker.runs import course_by
from anymaker.stepping import MOST_STANDINGS


def played(document, program, choice, options, inputs, most):
    """The showing of the run by these options."""
    judge_choice(document, program, choice)
    machine = Machine(Ground(document, program), choice)
    machine.begin()
    are_few = met_all(machine)
    if not are_options(machine, options):
        raise BadOptions("no dict from numbers of standings to options")
    if not are_inputs(inputs):
        raise BadInputs("no list of numbers from 0 to 7")
    if not is_between(most, 0, 200):
        raise BadMost("no number from 0 to 200")
    choices_of(document, program)
    if not are_few:
        raise TooMany(MOST_STANDINGS)
    return course_by(machine, inputs, most, lambda number, state, kind: (told_option(options, number), state))[0]


def met_all(machine):
    """Meets the standings that come; whether they are not too many."""
    number = 0
    while number < len(machine.pairs) and len(machine.pairs) <= MOST_STANDINGS:
        machine.step(number)
        number += 1
    return len(machine.pairs) <= MOST_STANDINGS


def are_options(machine, thing):
    """Whether any value is a dict from standings to let options of their requests, or None at the others."""
    if not isinstance(thing, dict) or not all([is_number(number) for number in thing]):
        return False
    return all([
        number in range(len(machine.pairs)) and is_option(machine.ground.document, machine.step(number), thing[number])
        for number in thing
    ])


def is_option(document, step, thing):
    if step[0] == "chooses":
        return is_let(thing, options_of(document, step[1]))
    return thing is None


def told_option(options, number):
    """The option that is told for a standing."""
    if number not in options:
        raise NotTold("a request for which no option is told")
    return options[number]
