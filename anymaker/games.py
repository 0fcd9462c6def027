"""One choice as a game: what comes in against what is answered, and which steps spoil."""

from anymaker.choices import choices_of
from anymaker.errors import BadBarred
from anymaker.forms import is_between
from anymaker.ground import Ground
from anymaker.judging import judge_document, judge_program
from anymaker.machine import Machine
from anymaker.stepping import MOST_STANDINGS, explore
from anymaker.steps import answers_of


def judge_barred(document, program, barred):
    judge_document(document)
    judge_program(program)
    judge_numbers(barred)


def judge_numbers(barred):
    if not isinstance(barred, tuple) or not all([is_between(number, 0, 7) for number in barred]):
        raise BadBarred("no tuple of numbers from 0 to 7")
    if list(barred) != sorted(set(barred)):
        raise BadBarred("numbers out of order, or twice")


class Game:
    """All standings that come by the choice of a machine, known by their numbers."""

    def __init__(self, machine, barred):
        machine.begin()
        explore(machine, MOST_STANDINGS)
        self.machine = machine
        self.barred = barred
        self.many = len(machine.pairs)

    def step(self, number):
        return self.machine.step(number)

    def is_spoiling(self, number):
        """Whether the step of a standing spoils; where a request is answered, options may."""
        step = self.step(number)
        if step[0] == "goes" and step[1] is not None:
            return step[1][1] in self.barred
        return step[0] == "ruined"

    def asks(self, number):
        return self.step(number)[0] == "asks"

    def requests(self, number):
        return self.step(number)[0] == "chooses"

    def is_end(self, number):
        return self.step(number)[0] == "ends"

    def answers(self, number):
        """At a request the pairs of an option that does not spoil and the standing behind it."""
        return answers_of(self.machine, number)

    def nexts(self, number):
        """All next standings, as moves tells them, without None."""
        step = self.step(number)
        if step[0] == "asks":
            return list(step[1])
        if step[0] == "goes":
            return [step[2]]
        return [reached for _, reached in self.answers(number)]

    def is_number(self, thing):
        """Whether any value is the number of a standing."""
        return is_between(thing, 0, self.many - 1)


def games_of(document, program, barred):
    """The games of all choices, in order."""
    ground = Ground(document, program)
    return [Game(Machine(ground, choice), barred) for choice in choices_of(document, program)]
