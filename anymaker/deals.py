"""Records of runs, and makers that agree and give them."""

from anymaker.bases import base_of, bases_of, ever_part, ever_parts
from anymaker.choices import choices_of
from anymaker.comings import Search
from anymaker.documents import options_of, scope_of
from anymaker.errors import BadKind, BadRecords
from anymaker.follows import is_ruined_run
from anymaker.forms import KINDS, are_events, are_inputs, asked_in, is_listing, is_row, is_word
from anymaker.freeds import Asking
from anymaker.ground import Ground
from anymaker.judging import judge_document
from anymaker.machine import Machine
from anymaker.makers import makes
from anymaker.programs import is_program
from anymaker.runs import course
from anymaker.sublots import parts_in_order

MOST_RECORDS = 8


def are_records(thing):
    """Whether any value is a list of one to eight records."""
    return is_listing(thing) and 1 <= len(thing) <= MOST_RECORDS and all([is_record(record) for record in thing])


def is_record(thing):
    if not is_row(thing, 3) or not is_program(thing[0]) or not are_inputs(thing[1]) or not is_row(thing[2], 2):
        return False
    inputs = tuple(thing[1])
    events, end = thing[2]
    if not are_events(events) or not is_word(end, ("more", "ends", "waits", "never")):
        return False
    asked = asked_in(events)
    return asked == inputs[:len(asked)] and (end != "waits" or asked == inputs)


def judge_records(document, records):
    judge_document(document)
    if not are_records(records):
        raise BadRecords("no list of one to eight records")


def deal(document, records):
    """Makers, one for each record, that agree and give them; None if the records are not let."""
    judge_records(document, records)
    return Dealing(document, records).deal_for(every(records))


def quarrel(document, records):
    """The first of the shortest lots of indexes of records that are not let together; None if all are let."""
    judge_records(document, records)
    dealing = Dealing(document, records)
    if dealing.deal_for(every(records)) is not None:
        return None
    return [lot for lot in parts_in_order(every(records)) if dealing.deal_for(lot) is None][0]


def left_open(document, records, kind):
    """The options of a kind of scope "ever" that some deal has."""
    judge_records(document, records)
    if not is_word(kind, KINDS) or scope_of(document, kind) != "ever":
        raise BadKind("no kind of the scope ever")
    dealing = Dealing(document, records)
    at = KINDS.index(kind)
    found = {ever[at]: True for ever in ever_parts(document) if dealing.deal_with(ever, every(records)) is not None}
    return tuple([option for option in options_of(document, kind) if option in found])


def every(records):
    return tuple(list(range(len(records))))


def is_deal(document, records, thing):
    """Whether any value is makers that agree and give the records."""
    judge_records(document, records)
    if not is_row(thing, len(records)):
        return False
    if not all([makes(document, record[0], maker) for record, maker in zip(records, thing)]):
        return False
    return do_agree(document, records, thing) and all([
        is_giving(document, record, maker) for record, maker in zip(records, thing)
    ])


def do_agree(document, records, makers):
    """Whether makers have the same where it is chosen for ever, or for a program that they share."""
    for record, maker in zip(records, makers):
        for other, beside in zip(records, makers):
            if ever_part(document, maker[1]) != ever_part(document, beside[1]):
                return False
            if record[0] == other[0] and base_of(document, maker[1]) != base_of(document, beside[1]):
                return False
    return True


def is_giving(document, record, maker):
    """Whether the run of a maker shows what the record has, or frees it by ruin."""
    program, inputs, showing = record
    found = course(document, program, maker, inputs, len(showing[0]))[0]
    if found == showing:
        return True
    if document[5] == "whole":
        return is_ruined_run(document, program, maker, inputs)
    return found[1] == "ruined" and found[0] == showing[0][:len(found[0])]


def giving_maker(machine, inputs, showing):
    """A maker with the choice of this machine that gives a record, or None."""
    search = Search(machine, showing)
    last = len(showing[0])
    found = search.goals(last, showing[1])
    if showing[1] == "more" and len(asked_in(showing[0])) == len(inputs):
        found = [number for number in found if machine.step(number)[0] == "goes"]
    if found:
        return search.maker_at(last, found[0], showing[1])
    if machine.ground.document[5] == "whole":
        return Asking(machine, tuple(inputs)).maker()
    for many in range(last + 1):
        ruined = search.goals(many, "ruined")
        if ruined:
            return search.maker_at(many, ruined[0], "ruined")
    return None


class Dealing:
    """For each record a dict from the bases by which it can be given to makers that give it."""

    def __init__(self, document, records):
        self.document = document
        self.programs = [record[0] for record in records]
        self.bases = [bases_of(document, program) for program in self.programs]
        self.givers = [givers_of(document, record) for record in records]

    def deal_for(self, lot):
        """Makers for the records with these indexes, or None."""
        for ever in ever_parts(self.document):
            found = self.deal_with(ever, lot)
            if found is not None:
                return found
        return None

    def deal_with(self, ever, lot):
        """The same with what is so for ever."""
        found = []
        for index in lot:
            same = [one for one in lot if self.programs[one] == self.programs[index]]
            base = self.base_for(ever, index, same)
            if base is None:
                return None
            found.append(self.givers[index][base])
        return tuple(found)

    def base_for(self, ever, index, same):
        """The first base with what is so for ever by which all of these records can be given, or None."""
        for base in self.bases[index]:
            if ever_part(self.document, base) == ever and all([base in self.givers[one] for one in same]):
                return base
        return None


def givers_of(document, record):
    program, inputs, showing = record
    ground = Ground(document, program)
    found = {}
    for choice in choices_of(document, program):
        base = base_of(document, choice)
        if base not in found:
            maker = giving_maker(Machine(ground, choice), inputs, showing)
            if maker is not None:
                found[base] = maker
    return found
