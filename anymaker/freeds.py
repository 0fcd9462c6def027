"""Rows of inputs for which nothing is promised, as some run with them is ruined."""

from anymaker.automata import least_rows
from anymaker.choices import choices_of
from anymaker.comings import numbers_of
from anymaker.errors import BadRow
from anymaker.fields import Lots, whole_field
from anymaker.follows import is_ruined_run
from anymaker.forms import are_inputs, is_row, is_word
from anymaker.ground import Ground
from anymaker.judging import judge_document, judge_program
from anymaker.machine import Machine
from anymaker.makers import makes, maker_along
from anymaker.steps import can_ruin
from anymaker.walks import ways_of


def judge_row(document, program, row):
    judge_document(document)
    judge_program(program)
    if not isinstance(row, tuple) or not are_inputs(row):
        raise BadRow("no tuple of numbers from 0 to 7")


def freed(document, program, row):
    """("freed", maker) or ("kept", chains)."""
    judge_row(document, program, row)
    ground = Ground(document, program)
    chains = []
    for choice in choices_of(document, program):
        asking = Asking(Machine(ground, choice), row)
        maker = asking.maker()
        if maker is not None:
            return ("freed", maker)
        chains.append(asking.chain())
    return ("kept", tuple(chains))


class Asking:
    """All pairs of a standing and how many numbers of a row were asked, under one choice."""

    def __init__(self, machine, row):
        self.machine = machine
        self.row = row
        self.links = {(machine.begin(), 0): None}
        self.lots = [[] for _ in range(len(row) + 1)]
        self.lots[0].append(machine.begin())
        for many in range(len(self.lots)):
            self.fill(many)

    def fill(self, many):
        """Goes on from all standings behind so many inputs."""
        at = 0
        while at < len(self.lots[many]):
            number = self.lots[many][at]
            at += 1
            for _, option, event, reached in ways_of(self.machine, number):
                later = many
                if event is not None and event[0] == "asked":
                    if self.row[many:many + 1] != (event[1],):
                        continue
                    later = many + 1
                if reached is not None and (reached, later) not in self.links:
                    self.links[(reached, later)] = ((number, many), option)
                    self.lots[later].append(reached)

    def chain(self):
        return tuple([tuple([self.machine.told(number) for number in lot]) for lot in self.lots])

    def maker(self):
        """A maker whose run with the row is ruined, or None."""
        found = [pair for pair in self.links if can_ruin(self.machine.step(pair[0]))]
        if not found:
            return None
        answers = []
        if self.machine.step(found[0][0])[0] == "chooses":
            answers.append("none")
        link = self.links[found[0]]
        while link is not None:
            pair, option = link
            if option is not None:
                answers.append(option)
            link = self.links[pair]
        return maker_along(self.machine.ground.document, self.machine.choice, answers[::-1], None)


def is_freed(document, program, row, thing):
    """Whether any value is one of the two that freed may tell of this row."""
    judge_row(document, program, row)
    rows = choices_of(document, program)
    if not is_row(thing, 2) or not is_word(thing[0], ("freed", "kept")):
        return False
    if thing[0] == "freed":
        return makes(document, program, thing[1]) and is_ruined_run(document, program, thing[1], row)
    if not is_row(thing[1], len(rows)):
        return False
    ground = Ground(document, program)
    return all([is_safe_chain(Machine(ground, choice), row, chain) for choice, chain in zip(rows, thing[1])])


def is_safe_chain(machine, row, thing):
    """Whether any value is a chain of lots for the numbers of a row, in which nothing is ruined."""
    if not is_row(thing, len(row) + 1):
        return False
    lots = [numbers_of(machine, lot) for lot in thing]
    if None in lots or machine.begin() not in lots[0]:
        return False
    for at, lot in enumerate(lots):
        behind = lots[at + 1] if at < len(row) else {}
        if not all([stays_safe(machine, number, lot, row[at:at + 1], behind) for number in lot]):
            return False
    return True


def stays_safe(machine, number, lot, given, behind):
    """Whether a standing is not ruined, and leads to the lot, or by the given input to the lot behind."""
    for one in ways_of(machine, number):
        event, reached = one[2:]
        if reached is None:
            return False
        if event is None or event[0] == "shown":
            if reached not in lot:
                return False
        elif (event[1],) == tuple(given) and reached not in behind:
            return False
    return True


def kept_rows(document, program):
    """The least machine of the rows that are not freed."""
    judge_document(document)
    judge_program(program)
    lots = Lots(whole_field(document, program), True)
    first = lots.least(lots.field.begins)
    if "ruined" in lots.ends(first):
        return ()
    indexes = [first]
    places = {first: 0}
    goes = []
    while len(goes) < len(indexes):
        ways = [(given, asked_lot(lots, indexes[len(goes)], given)) for given in range(8)]
        ways = [(given, reached) for given, reached in ways if "ruined" not in lots.ends(reached)]
        for _, reached in ways:
            if reached not in places:
                places[reached] = len(indexes)
                indexes.append(reached)
        goes.append([(given, places[reached]) for given, reached in ways])
    rows = least_rows([None] * len(goes), goes)
    return tuple([spread_out(ways) for _, ways in rows])


def asked_lot(lots, index, given):
    """The index of the lot behind an input; it is empty where nothing asks."""
    found = lots.behind(index).get(("asked", given))
    return lots.least([]) if found is None else found


def spread_out(ways):
    """The eight items of a row."""
    table = {given: reached for given, reached in ways}
    return tuple([table.get(given) for given in range(8)])
