"""All standings that come of a program under some of its choices, numbered choice by choice."""

from anymaker.choices import choices_of
from anymaker.ground import Ground
from anymaker.machine import Machine
from anymaker.stepping import explore
from anymaker.steps import can_ruin, endless_of, event_nexts, silent_nexts


class Field:
    """Numbers of a field ascend as pairs of the index of a choice and the number of a standing do."""

    def __init__(self, machines, indexes):
        self.machines = machines
        self.indexes = indexes
        self.begins = []
        self.owners = []
        self.silent = []
        self.eventful = []
        for at, machine in enumerate(machines):
            explore(machine, None)
            self.begins.append(len(self.owners))
            self.take_in(at)
        self.endless = endless_of({number: nexts for number, nexts in enumerate(self.silent)})

    def take_in(self, at):
        begin = self.begins[at]
        machine = self.machines[at]
        for number in range(len(machine.pairs)):
            step = machine.step(number)
            self.owners.append(at)
            self.silent.append([begin + reached for reached in silent_nexts(step)])
            self.eventful.append([(event, begin + reached) for event, reached in event_nexts(step)])

    def pair(self, number):
        """The index of the choice and the number of the standing by it."""
        at = self.owners[number]
        return (self.indexes[at], number - self.begins[at])

    def machine_at(self, number):
        return self.machines[self.owners[number]]

    def own(self, number):
        """The number by which the machine knows the standing."""
        return number - self.begins[self.owners[number]]

    def step(self, number):
        """The step of a standing; it tells of the numbers of its machine."""
        return self.machine_at(number).step(self.own(number))

    def told(self, number):
        return self.machine_at(number).told(self.own(number))

    def memory(self, number):
        return self.machine_at(number).pairs[self.own(number)][1]

    def ends(self, number):
        """Those of "ends", "never", "ruined" to which the standing itself can come."""
        step = self.step(number)
        found = []
        if step[0] == "ends":
            found.append("ends")
        if number in self.endless:
            found.append("never")
        if can_ruin(step):
            found.append("ruined")
        return found


def field_of(document, program, indexes):
    """The field of the choices with these indexes, which ascend."""
    ground = Ground(document, program)
    rows = choices_of(document, program)
    machines = []
    for index in indexes:
        machine = Machine(ground, rows[index])
        machine.begin()
        machines.append(machine)
    return Field(machines, list(indexes))


def whole_field(document, program):
    return field_of(document, program, list(range(len(choices_of(document, program)))))


class Lots:
    """Lots of numbers of a field by indexes: a lot has all that comes behind it without an event.

    A wide lot has also what comes behind shown events.
    """

    def __init__(self, field, is_wide):
        self.field = field
        self.is_wide = is_wide
        self.rows = []
        self.known = {}
        self.after = {}
        self.ending = {}

    def least(self, numbers):
        """The index of the least lot that has these numbers."""
        seen = {}
        pending = list(numbers)
        while pending:
            number = pending.pop()
            if number in seen:
                continue
            seen[number] = True
            pending.extend(self.field.silent[number])
            if self.is_wide:
                pending.extend([reached for event, reached in self.field.eventful[number] if event[0] == "shown"])
        return self.index_of(tuple(sorted(seen)))

    def index_of(self, row):
        found = self.known.get(row)
        if found is None:
            found = len(self.rows)
            self.known[row] = found
            self.rows.append(row)
        return found

    def behind(self, index):
        """A new dict from the events that can come next, ascending, to the lots behind them."""
        if index not in self.after:
            reached = {}
            for number in self.rows[index]:
                for event, one in self.field.eventful[number]:
                    reached.setdefault(event, []).append(one)
            self.after[index] = tuple([(event, self.least(reached[event])) for event in sorted(reached)])
        return {event: reached for event, reached in self.after[index]}

    def behind_all(self, index, events):
        """The index of the lot behind these events, None if they do not come."""
        for event in events:
            index = self.behind(index).get(event)
            if index is None:
                return None
        return index

    def ends(self, index):
        """Those of "ends", "never", "ruined" to which the lot can come without an event."""
        if index not in self.ending:
            ways = [end for number in self.rows[index] for end in self.field.ends(number)]
            self.ending[index] = tuple([end for end in ("ends", "never", "ruined") if end in ways])
        return self.ending[index]

    def told_pairs(self, index):
        return tuple([self.field.pair(number) for number in self.rows[index]])
