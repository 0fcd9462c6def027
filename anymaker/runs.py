"""The run of a program by one maker and inputs."""

from anymaker.documents import anew_kinds, options_of
from anymaker.forms import asked_in
from anymaker.ground import Ground
from anymaker.machine import Machine
from anymaker.refusing import judge_run


def run(document, program, maker, inputs, most):
    """The showing of the run, of at most so many events."""
    judge_run(document, program, maker, inputs, most)
    return course(document, program, maker, inputs, most)[0]


def requests(document, program, maker, inputs, most):
    """The requests of the run up to there, with the options that they got."""
    judge_run(document, program, maker, inputs, most)
    return course(document, program, maker, inputs, most)[1]


def course(document, program, maker, inputs, most):
    """The showing of a run and its requests; most may be any number here."""
    machine = Machine(Ground(document, program), maker[1])
    return course_by(machine, inputs, most, lambda number, state, kind: answer_of(document, maker, state, kind))


def course_by(machine, inputs, most, answer):
    """The same by a function from a standing, a state and a kind to an option and the next state."""
    document = machine.ground.document
    number, state = machine.begin(), 0
    events, made, seen = [], [], {}
    end = None
    while end is None:
        if (number, state) in seen:
            end = "never"
            break
        seen[(number, state)] = True
        step = machine.step(number)
        event = event_now(step, events, inputs)
        if step[0] in ("ends", "ruined"):
            end = step[0]
        elif step[0] == "chooses":
            option, state = answer(number, state, step[1])
            made.append((step[1], step[2], option))
            number = step[3][options_of(document, step[1]).index(option)]
            end = "ruined" if number is None else None
        elif step[0] == "asks" and event is None:
            end = "waits"
        elif event is not None and len(events) == most:
            end = "more"
        elif event is None:
            number = step[2]
        else:
            number = step[1][event[1]] if step[0] == "asks" else step[2]
            events.append(event)
            seen = {}
    return (tuple(events), end), tuple(made)


def event_now(step, events, inputs):
    """The event of a step behind these events, None if it has none or no input is left."""
    if step[0] == "goes":
        return step[1]
    asked = len(asked_in(events))
    if step[0] == "asks" and asked < len(inputs):
        return ("asked", inputs[asked])
    return None


def answer_of(document, maker, state, kind):
    """The option that a maker in this state gives to a request of the kind, and its next state."""
    return maker[2][state][anew_kinds(document).index(kind)]
