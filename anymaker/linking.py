"""Parts alone, a call being one step, and what comes of them in linked runs."""

from anymaker.choices import choices_of
from anymaker.documents import options_of, scope_of
from anymaker.errors import Tight
from anymaker.forms import ASKING, SIZES
from anymaker.ground import Ground
from anymaker.judging import judge_document, judge_program
from anymaker.machine import Machine
from anymaker.meanings import ranks_of
from anymaker.programs import parts_of
from anymaker.steps import can_ruin, event_nexts, silent_nexts


def judge_loose(document):
    """Behind BadDocument, Tight is raised for documents that do not let each part have a maker of its own."""
    judge_document(document)
    for kind in ASKING:
        if len(options_of(document, kind)) > 1 and scope_of(document, kind) not in ("part", "place", "anew"):
            raise Tight("a kind with several options is not of the scope part, place or anew")
    if len(options_of(document, "width")) > 1:
        raise Tight("several widths")


def judge_linked(document, program):
    judge_loose(document)
    judge_program(program)


def size_of(document):
    return SIZES[options_of(document, "width")[0]]


def by_memories(pairs):
    """Pairs of a memory and something else, by memories; None is ahead of 0."""
    return sorted(pairs, key=lambda pair: ranks_of(pair[0]))


def ascending_ends(ends):
    """Ends by worths, then by memories."""
    return tuple(sorted(ends, key=lambda end: (end[0], ranks_of(end[1]))))


class Alone:
    """One part of a program by all choices for it alone; standings are pairs of a machine and a number."""

    def __init__(self, document, variables, expression):
        program = ("program", variables, (), expression)
        ground = Ground(document, program)
        self.machines = [Machine(ground, choice) for choice in choices_of(document, program)]

    def begun_with(self, memory):
        """The standings with which it begins, one for each choice."""
        return [(machine, machine.meet(machine.ground.whole_parts["body"], memory)) for machine in self.machines]


def call_at(standing):
    """The pair of a name and a memory if a call comes next, otherwise None."""
    machine, number = standing
    rest, memory = machine.pairs[number]
    _, node = machine.active(rest)
    return (node[1], memory) if node[0] == "call" else None


def back_from_call(standing, end):
    """The standing in which a call has come back with this end."""
    machine, number = standing
    frames, _ = machine.active(machine.pairs[number][0])
    return (machine, machine.behind(frames, machine.figure(end[0]), end[1]))


def steps_behind(standing):
    """The standings to which steps but calls lead."""
    machine, number = standing
    if call_at(standing) is not None:
        return []
    step = machine.step(number)
    reached = silent_nexts(step) + [one for _, one in event_nexts(step)]
    return [(machine, one) for one in reached]


def end_at(standing):
    """The end of a standing that is over, otherwise None."""
    machine, number = standing
    if call_at(standing) is not None or machine.step(number)[0] != "ends":
        return None
    return (machine.step(number)[1], machine.pairs[number][1])


def ruins_at(standing):
    machine, number = standing
    return call_at(standing) is None and can_ruin(machine.step(number))


def all_behind(standings, ends_of):
    """These standings and all that come behind them; ends_of tells the ends of a call by its name and memory."""
    found = []
    seen = {}
    pending = list(standings)
    while pending:
        standing = pending.pop()
        machine, number = standing
        key = (machine.choice, number)
        if key in seen:
            continue
        seen[key] = True
        found.append(standing)
        pending.extend(steps_behind(standing))
        call = call_at(standing)
        if call is not None:
            pending.extend([back_from_call(standing, end) for end in ends_of(call[0], call[1])])
    return found


def course_of(standings, ends_of):
    """(whether a part is ruined itself, the dict of its ends, the dict of its calls) from these standings on."""
    found = all_behind(standings, ends_of)
    ends = {end_at(standing): True for standing in found if end_at(standing) is not None}
    calls = {call_at(standing): True for standing in found if call_at(standing) is not None}
    return any([ruins_at(standing) for standing in found]), ends, calls


class Linked:
    """The parts of a program in linked runs: what comes of each, begun with a memory."""

    def __init__(self, document, program):
        self.size = size_of(document)
        self.program = program
        self.names = [name for name, _ in parts_of(program)]
        self.parts = {name: Alone(document, program[1], expression) for name, expression in parts_of(program)}
        self.nothing = (None,) * len(program[1])
        self.known = {}

    def outcome(self, name, memory):
        """(whether some run is ruined, the ascending ends, the dict of the calls it makes itself)."""
        key = (name, memory)
        if key not in self.known:
            first = self.parts[name].begun_with(memory)
            ruined, ends, calls = course_of(first, lambda part, here: self.outcome(part, here)[1])
            ruined = ruined or any([self.outcome(part, here)[0] for part, here in calls])
            self.known[key] = (ruined, ascending_ends(ends), calls)
        return self.known[key]
