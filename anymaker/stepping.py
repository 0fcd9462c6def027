"""What comes next, and all that comes."""

from anymaker.errors import TooMany
from anymaker.ground import Ground
from anymaker.machine import Machine
from anymaker.refusing import judge_choice, judge_standing

MOST_STANDINGS = 2000


def moves(document, program, choice, standing):
    """What comes next behind a standing."""
    judge_standing(document, program, choice, standing)
    machine = Machine(Ground(document, program), choice)
    step = machine.step(machine.enter(standing))
    if step[0] == "goes":
        return ("goes", step[1], machine.told(step[2]))
    if step[0] == "asks":
        return ("asks", tuple([machine.told(number) for number in step[1]]))
    if step[0] == "chooses":
        return step[:3] + (tuple([machine.told(number) for number in step[3]]),)
    return step


def standings(document, program, choice):
    """All standings that come, as they are met."""
    judge_choice(document, program, choice)
    machine = Machine(Ground(document, program), choice)
    machine.begin()
    explore(machine, MOST_STANDINGS)
    return tuple([machine.told(number) for number in range(len(machine.pairs))])


def explore(machine, most):
    """Takes the steps of all standings behind those that are met; most may be None."""
    number = 0
    while number < len(machine.pairs):
        machine.step(number)
        number += 1
        if most is not None and len(machine.pairs) > most:
            raise TooMany(most)
