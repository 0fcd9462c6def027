"""What can come next, whatever is chosen."""

from anymaker.ground import Ground
from anymaker.machine import Machine
from anymaker.refusing import judge_standing
from anymaker.steps import can_ruin, event_nexts, has_round, silently_behind


def events_of(document, program, choice, standing):
    """The tuple of the ends and events that can come next."""
    judge_standing(document, program, choice, standing)
    machine = Machine(Ground(document, program), choice)
    numbers = silently_behind(machine, [machine.enter(standing)])
    steps = [machine.step(number) for number in numbers]
    found = []
    if any([step[0] == "ends" for step in steps]):
        found.append("ends")
    if has_round(machine, numbers):
        found.append("never")
    if any([can_ruin(step) for step in steps]):
        found.append("ruined")
    events = [event for step in steps for event, _ in event_nexts(step)]
    return tuple(found + sorted(set([told_event(event) for event in events])))


def told_event(event):
    """One event stands for all inputs."""
    return ("asked", 0) if event[0] == "asked" else event
