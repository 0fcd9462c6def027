"""Sheets of all showings, and where two programs show unlike things first."""

from anymaker.automata import least_rows
from anymaker.fields import Lots, whole_field
from anymaker.forms import ENDS
from anymaker.judging import judge_document, judge_program


def sheet(document, program):
    """The sheet of all showings of the program."""
    judge_document(document)
    judge_program(program)
    return sheet_of(document, program)


def sheet_of(document, program):
    field = whole_field(document, program)
    lots = Lots(field, False)
    lots.least(field.begins)
    heads = []
    goes = []
    while len(heads) < len(lots.rows):
        goes.append(list(lots.behind(len(heads)).items()))
        heads.append(lots.ends(len(heads)))
    return tuple(least_rows(heads, goes))


def first_apart(document, program, other):
    """The least showing that comes of just one of the programs, and of which; None if there is none."""
    judge_document(document)
    judge_program(program)
    judge_program(other)
    return first_between(sheet_of(document, program), sheet_of(document, other))


def first_between(one, other):
    """Pairs of rows are met by their least events: fewer first, then event by event."""
    pending = [((), 0, 0)]
    seen = {(0, 0): True}
    at = 0
    while at < len(pending):
        events, row, beside = pending[at]
        at += 1
        mine = ends_at(one, row)
        others = ends_at(other, beside)
        for end in ENDS:
            if (end in mine) != (end in others):
                return ((events, end), 1 if end in mine else 2)
        goes = goes_at(one, row)
        ways = goes_at(other, beside)
        for event in sorted(set(list(goes) + list(ways))):
            pair = (goes.get(event), ways.get(event))
            if pair not in seen:
                seen[pair] = True
                pending.append((events + (event,), pair[0], pair[1]))
    return None


def goes_at(rows, row):
    return {} if row is None else {event: reached for event, reached in rows[row][1]}


def ends_at(rows, row):
    """All ends of the showings of a row's events; without a row there are none."""
    if row is None:
        return ()
    found = rows[row][0]
    goes = goes_at(rows, row)
    if goes:
        found = found + ("more",)
    if ("asked", 0) in goes:
        found = found + ("waits",)
    return found
