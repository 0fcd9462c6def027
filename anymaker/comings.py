"""Whether a showing comes: a maker and inputs, or chains of lots that keep it away."""

from anymaker.choices import choices_of
from anymaker.forms import are_inputs, asked_in, is_row, is_word
from anymaker.ground import Ground
from anymaker.judging import judge_document, judge_program
from anymaker.machine import Machine
from anymaker.makers import makes, maker_along
from anymaker.refusing import judge_showing
from anymaker.runs import course
from anymaker.steps import answers_of, endless_of, event_nexts, has_round, makes_end, round_from, silent_nexts


def comes(document, program, showing):
    """("comes", maker, inputs) or ("not", chains)."""
    judge_document(document)
    judge_program(program)
    judge_showing(showing)
    ground = Ground(document, program)
    chains = []
    for choice in choices_of(document, program):
        search = Search(Machine(ground, choice), showing)
        maker = search.maker()
        if maker is not None:
            return ("comes", maker, search.inputs())
        chains.append(search.chain())
    return ("not", tuple(chains))


class Search:
    """All pairs of a standing and how many of the events of a showing have come, under one choice."""

    def __init__(self, machine, showing):
        self.machine = machine
        self.showing = showing
        self.links = {}
        self.lots = [[] for _ in range(len(showing[0]) + 1)]
        self.goal = None
        self.come((machine.begin(), 0), None)
        for many in range(len(self.lots)):
            self.fill(many)

    def come(self, pair, link):
        if pair not in self.links:
            self.links[pair] = link
            self.lots[pair[1]].append(pair[0])

    def fill(self, many):
        """Goes on from all standings behind so many events."""
        events = self.showing[0]
        lot = self.lots[many]
        at = 0
        while at < len(lot):
            number = lot[at]
            at += 1
            for option, reached in answers_of(self.machine, number):
                self.come((reached, many), ((number, many), option))
            for event, reached in event_nexts(self.machine.step(number)):
                if many < len(events) and event == events[many]:
                    self.come((reached, many + 1), ((number, many), None))

    def chain(self):
        return tuple([tuple([self.machine.told(number) for number in lot]) for lot in self.lots])

    def maker(self):
        """A maker that has the showing, or None."""
        last = len(self.lots) - 1
        found = self.goals(last, self.showing[1])
        if not found:
            return None
        self.goal = found[0]
        return self.maker_at(last, self.goal, self.showing[1])

    def goals(self, many, end):
        """The standings behind so many events that make the end."""
        lot = self.lots[many]
        if end == "never":
            endless = self.endless_behind(many)
            return [number for number in lot if number in endless]
        return [number for number in lot if makes_end(self.machine.step(number), end)]

    def endless_behind(self, many):
        return endless_of({number: silent_nexts(self.machine.step(number)) for number in self.lots[many]})

    def maker_at(self, many, number, end):
        """A maker that makes the end at this standing behind so many events."""
        answers = self.answers_to(many, number)
        again = None
        if end == "never":
            more, again = round_from(self.machine, number, self.endless_behind(many))
            again = None if again is None else again + len(answers)
            answers = answers + more
        elif end == "ruined" and self.machine.step(number)[0] == "chooses":
            answers.append("none")
        return maker_along(self.machine.ground.document, self.machine.choice, answers, again)

    def answers_to(self, many, number):
        """The options that lead to this standing behind so many events, one behind another."""
        answers = []
        link = self.links[(number, many)]
        while link is not None:
            pair, option = link
            if option is not None:
                answers.append(option)
            link = self.links[pair]
        return answers[::-1]

    def inputs(self):
        """The inputs that the events tell, and one that makes more of them come."""
        asked = asked_in(self.showing[0])
        if self.showing[1] == "more" and self.machine.step(self.goal)[0] == "asks":
            return asked + (0,)
        return asked


def is_coming(document, program, showing, thing):
    """Whether any value is one of the two that comes may tell of this showing."""
    judge_document(document)
    judge_program(program)
    judge_showing(showing)
    rows = choices_of(document, program)
    if is_row(thing, 3) and is_word(thing[0], ("comes",)):
        return gives(document, program, showing, thing[1], thing[2])
    if not is_row(thing, 2) or not is_word(thing[0], ("not",)) or not is_row(thing[1], len(rows)):
        return False
    ground = Ground(document, program)
    return all([is_chain(Machine(ground, choice), showing, chain) for choice, chain in zip(rows, thing[1])])


def gives(document, program, showing, maker, inputs):
    """Whether these are a maker and inputs of which run tells the showing."""
    if not makes(document, program, maker) or not are_inputs(inputs):
        return False
    return course(document, program, maker, inputs, len(showing[0]))[0] == showing


def is_chain(machine, showing, thing):
    events, end = showing
    if not is_row(thing, len(events) + 1):
        return False
    lots = [numbers_of(machine, lot) for lot in thing]
    if None in lots or machine.begin() not in lots[0]:
        return False
    for at, lot in enumerate(lots):
        event = events[at] if at < len(events) else None
        behind = lots[at + 1] if at < len(events) else {}
        if not all([goes_on(machine.step(number), lot, event, behind) for number in lot]):
            return False
    last = lots[-1]
    if end == "never":
        return not has_round(machine, last)
    return not any([makes_end(machine.step(number), end) for number in last])


def numbers_of(machine, thing):
    """The dict of the numbers of different standings, None for any value that is no tuple of such."""
    if not isinstance(thing, tuple):
        return None
    if not all([machine.ground.is_standing(machine.size, standing) for standing in thing]):
        return None
    numbers = [machine.enter(standing) for standing in thing]
    if len(set(numbers)) < len(numbers):
        return None
    return {number: True for number in numbers}


def goes_on(step, lot, event, behind):
    """Whether all that comes next is in the lot, and in that behind if it comes by this event."""
    if not all([number in lot for number in silent_nexts(step)]):
        return False
    return all([number in behind for one, number in event_nexts(step) if one == event])
