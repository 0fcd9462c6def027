"""Walks: all standings of one choice to which steps lead that use no banned pair of a kind and an option."""

from anymaker.documents import options_of
from anymaker.forms import asked_in, is_event
from anymaker.makers import maker_along
from anymaker.steps import endless_of, round_along


def ways_of(machine, number):
    """The steps from a standing: tuples (pair that is used, answer, event, standing behind).

    The first three may be None; the last one is None where the step has no meaning.
    """
    step = machine.step(number)
    if step[0] == "chooses":
        let = options_of(machine.ground.document, step[1])
        return [((step[1], option), option, None, reached) for option, reached in zip(let, step[3])]
    used = machine.uses.get(number)
    if step[0] == "ruined":
        return [(used, None, None, None)]
    if step[0] == "goes":
        return [(used, None, step[1], step[2])]
    if step[0] == "asks":
        return [(None, None, ("asked", given), reached) for given, reached in enumerate(step[1])]
    return []


def free_ways(machine, number, banned):
    """The steps that use no banned pair."""
    return [way for way in ways_of(machine, number) if way[0] not in banned]


def silent_ways(machine, number, banned):
    """The pairs of an answer, or None, and the standing behind it, of free steps without an event."""
    return [
        (option, reached) for _, option, event, reached in free_ways(machine, number, banned)
        if event is None and reached is not None
    ]


def is_at(machine, number, goal, banned):
    """Whether a standing makes a goal, which is not "never", by itself or by a free step."""
    if goal == "ends":
        return machine.step(number)[0] == "ends"
    ways = free_ways(machine, number, banned)
    if goal == "ruined":
        return any([way[3] is None for way in ways])
    return any([way[2] == goal for way in ways])


def endless_in(machine, numbers, banned):
    """The dict of those that can go on for ever by free steps without an event; all such lead to numbers."""
    nexts = {}
    for number in numbers:
        nexts[number] = [reached for _, reached in silent_ways(machine, number, banned)]
    return endless_of(nexts)


class Walk:
    """The standings in the sequence in which they are met from the first one on: by fewest steps."""

    def __init__(self, machine, banned):
        self.machine = machine
        self.banned = banned
        begin = machine.begin()
        self.numbers = [begin]
        self.links = {begin: None}
        self.depths = {begin: 0}
        at = 0
        while at < len(self.numbers):
            self.go_on(self.numbers[at])
            at += 1

    def go_on(self, number):
        for _, option, event, reached in free_ways(self.machine, number, self.banned):
            if reached is not None and reached not in self.links:
                self.links[reached] = (number, option, event)
                self.depths[reached] = self.depths[number] + 1
                self.numbers.append(reached)

    def going_on(self):
        return endless_in(self.machine, self.numbers, self.banned)

    def first_at(self, goal):
        """The first standing that makes the goal, None if there is none."""
        if goal == "never":
            endless = self.going_on()
            found = [number for number in self.numbers if number in endless]
        else:
            found = [number for number in self.numbers if is_at(self.machine, number, goal, self.banned)]
        return found[0] if found else None

    def way_to(self, number):
        """The answers and the inputs with which the standing is come to."""
        answers, inputs = [], []
        link = self.links[number]
        while link is not None:
            number, option, event = link
            if option is not None:
                answers.append(option)
            if event is not None and event[0] == "asked":
                inputs.append(event[1])
            link = self.links[number]
        return answers[::-1], tuple(inputs[::-1])

    def maker_to(self, number, goal):
        """A maker and inputs whose run comes to the goal at this standing, which makes it."""
        answers, inputs = self.way_to(number)
        again = None
        if goal == "ruined" and self.machine.step(number)[0] == "chooses":
            answers.append("none")
        if goal == "never":
            endless = self.going_on()
            more, again = round_along(lambda one: silent_ways(self.machine, one, self.banned), number, endless)
            again = None if again is None else again + len(answers)
            answers = answers + more
        if is_event(goal):
            inputs = inputs + asked_in((goal,))
        return maker_along(self.machine.ground.document, self.machine.choice, answers, again), inputs
