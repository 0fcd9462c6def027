"""Departures from a told maker: the fewest with which a showing comes, and floors below them."""

from anymaker.errors import BadMaker, BadMany, BadShowing, OtherChoice
from anymaker.forms import asked_in, is_between, is_number, is_row
from anymaker.ground import Ground
from anymaker.judging import judge_document, judge_program
from anymaker.machine import Machine
from anymaker.makers import makes, maker_along
from anymaker.refusing import judge_run, judge_showing
from anymaker.runs import answer_of, course
from anymaker.steps import answers_of, event_nexts, makes_end, silent_nexts


def departed(document, program, maker, other, inputs, most):
    """How many of the requests of the other maker's run are departures from the first maker."""
    judge_makers(document, program, (maker, other))
    judge_run(document, program, other, inputs, most)
    if maker[1] != other[1]:
        raise OtherChoice("the makers have unlike choices")
    state, many = 0, 0
    for kind, _, option in course(document, program, other, inputs, most)[1]:
        told, state = answer_of(document, maker, state, kind)
        if option != told:
            many += 1
    return many


def judge_makers(document, program, makers):
    judge_document(document)
    judge_program(program)
    if not all([makes(document, program, maker) for maker in makers]):
        raise BadMaker("no maker of the program")


def judge_told(document, program, maker, showing):
    judge_makers(document, program, (maker,))
    judge_showing(showing)
    if showing[1] == "never":
        raise BadShowing("a showing that never ends")


def departures(document, program, maker, showing):
    """(the fewest departures, another maker, inputs) that have the showing, or None."""
    judge_told(document, program, maker, showing)
    return Beside(document, program, maker, showing).fewest()


def floor(document, program, maker, showing, many):
    """A floor for so many departures, None if the showing comes with fewer."""
    judge_floor(document, program, maker, showing, many)
    beside = Beside(document, program, maker, showing)
    found = beside.fewest()
    if found is not None and found[0] < many:
        return None
    machine = beside.machine
    return tuple([
        (state, at, machine.told(number), beside.fewer[(state, at, number)]) for state, at, number in beside.fewer
    ])


def judge_floor(document, program, maker, showing, many):
    judge_told(document, program, maker, showing)
    if not is_between(many, 0, 200):
        raise BadMany("no number from 0 to 200")


def is_floor(document, program, maker, showing, many, thing):
    """Whether any value is a floor for so many departures."""
    judge_floor(document, program, maker, showing, many)
    beside = Beside(document, program, maker, showing)
    if not isinstance(thing, tuple) or not all([beside.is_item(item) for item in thing]):
        return False
    table = {}
    for state, at, standing, number in thing:
        table[(state, at, beside.machine.enter(standing))] = number
    if len(table) < len(thing) or table.get(beside.first_item) != 0:
        return False
    return all([beside.holds(item, table, many) for item in table])


class Beside:
    """A told maker beside all runs with its choice: items (state, how many events have come, standing)."""

    def __init__(self, document, program, maker, showing):
        self.document = document
        self.told_maker = maker
        self.events = showing[0]
        self.end = showing[1]
        self.machine = Machine(Ground(document, program), maker[1])
        self.first_item = (0, 0, self.machine.begin())
        self.fewer = {}
        self.links = {}

    def behind(self, item):
        """The steps from an item: triples (item behind, 1 if it is a departure or 0, answer or None)."""
        state, at, number = item
        step = self.machine.step(number)
        if step[0] == "chooses":
            told, after = answer_of(self.document, self.told_maker, state, step[1])
            pairs = answers_of(self.machine, number)
            return [((after, at, reached), 1 if option != told else 0, option) for option, reached in pairs]
        found = [((state, at, reached), 0, None) for reached in silent_nexts(step)]
        for event, reached in event_nexts(step):
            if at < len(self.events) and event == self.events[at]:
                found.append(((state, at + 1, reached), 0, None))
        return found

    def to_end(self, item):
        """How many departures the end takes itself, None if the item does not make it."""
        state, at, number = item
        step = self.machine.step(number)
        if at < len(self.events) or not makes_end(step, self.end):
            return None
        if self.end == "ruined" and step[0] == "chooses":
            return 0 if answer_of(self.document, self.told_maker, state, step[1])[0] == "none" else 1
        return 0

    def fill(self):
        """The fewest departures of all items that come: those with fewer of them first."""
        many = 0
        level = [(self.first_item, None)]
        while level:
            later = []
            while level:
                item, link = level.pop()
                if item in self.fewer:
                    continue
                self.fewer[item] = many
                self.links[item] = link
                for reached, cost, option in self.behind(item):
                    if cost:
                        later.append((reached, (item, option)))
                    else:
                        level.append((reached, (item, option)))
            level = later
            many += 1

    def fewest(self):
        """(many, maker, inputs), or None; also fills in how few departures lead to all items."""
        self.fill()
        best, most = None, 0
        for item in self.fewer:
            cost = self.to_end(item)
            if cost is not None and (best is None or self.fewer[item] + cost < most):
                best, most = item, self.fewer[item] + cost
        if best is None:
            return None
        step = self.machine.step(best[2])
        answers = self.answers_to(best)
        if self.end == "ruined" and step[0] == "chooses":
            answers.append("none")
        inputs = asked_in(self.events)
        if self.end == "more" and step[0] == "asks":
            inputs = inputs + (0,)
        return (most, maker_along(self.document, self.told_maker[1], answers, None), inputs)

    def answers_to(self, item):
        answers = []
        link = self.links[item]
        while link is not None:
            item, option = link
            if option is not None:
                answers.append(option)
            link = self.links[item]
        return answers[::-1]

    def is_item(self, thing):
        """Whether any value is an item of a floor by its form."""
        if not is_row(thing, 4) or not is_number(thing[3]) or thing[3] < 0:
            return False
        if not is_between(thing[0], 0, len(self.told_maker[2]) - 1) or not is_between(thing[1], 0, len(self.events)):
            return False
        return self.machine.ground.is_standing(self.machine.size, thing[2])

    def holds(self, item, table, many):
        """Whether what is behind an item is in the table of a floor, with a number that it may have."""
        for reached, cost, _ in self.behind(item):
            if reached not in table or table[reached] > table[item] + cost:
                return False
        cost = self.to_end(item)
        return cost is None or table[item] >= many - cost
