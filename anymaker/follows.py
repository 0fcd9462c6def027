"""One run of one maker, followed however long it is up to a goal."""

from anymaker.ground import Ground
from anymaker.machine import Machine
from anymaker.runs import answer_of
from anymaker.walks import ways_of


def used_up_to(document, program, maker, inputs, goal):
    """The pairs that the run uses up to the goal, its width among them; None if it does not come to it."""
    machine = Machine(Ground(document, program), maker[1])
    number, state, given = machine.begin(), 0, 0
    used = {("width", maker[1][3]): True}
    silent, seen = {}, {}
    while (number, state, given) not in seen:
        silent[(number, state)] = True
        seen[(number, state, given)] = True
        if goal == "ends" and machine.step(number)[0] == "ends":
            return list(used)
        now = taken(machine, maker, number, state, inputs[given:given + 1])
        if now is None:
            return None
        pair, event, number, state = now
        if pair is not None:
            used[pair] = True
        if event == goal or goal == "ruined" and number is None:
            return list(used)
        if number is None:
            return None
        if event is not None:
            silent = {}
        if event is not None and event[0] == "asked":
            given += 1
    return list(used) if goal == "never" and (number, state) in silent else None


def taken(machine, maker, number, state, given):
    """The step of a run (pair that is used, event, standing behind, state), None if it ends or waits.

    given has the next input, or nothing.
    """
    step = machine.step(number)
    ways = ways_of(machine, number)
    if step[0] == "chooses":
        option, state = answer_of(machine.ground.document, maker, state, step[1])
        ways = [way for way in ways if way[1] == option]
    if step[0] == "asks":
        ways = [ways[one] for one in given]
    if not ways:
        return None
    pair, _, event, reached = ways[0]
    return pair, event, reached, state


def is_ruined_run(document, program, maker, inputs):
    return used_up_to(document, program, maker, inputs, "ruined") is not None
